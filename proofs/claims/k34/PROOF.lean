import PyProof.Rows.All
import Wide.All
import OpenK.AllK
import Wide.FinOn
import HandS.ForMost
import HandS.Codes
import HandS.Wide
import HandS.ReplaceLit
import HandS.ReplaceDef
import HandS.IsInst
import HandS.More
import HandS.StrMore
import HandS.Flow
import HandS.Zip
import HandS.ExcInit
import HandS.ExcField
import HandS.ExcIs
import HandS.ExcOwn
import HandS.TryMany
import HandS.OwnEq
import HandS.FStr
import HandS.Star
import HandS.WordsExc
import PyProof.InstNe
import HandS.ExcValue
import HandS.RaiseMore
import HandS.Lambda
import HandS.EndTab
import KE.KNest
import HandS.Comp
import KE.GoesComp
import KE.GoesRaise
import HandS.Walk
import HandS.Style
import HandS.Deep
import HandS.Defaults
import PySem.Challenge.RW_textworkshop_k34_texts_of_line_tests
set_option Elab.async false
set_option linter.all false
set_option maxRecDepth 100000
set_option maxHeartbeats 4000000
namespace Vf
open PySem PySem.Spec PyProof.Rows L2 SX

/-! ### heaps: all but dicts stays -/
def Ks (H H' : Hp) : Prop := (∀ b o, H b = some o → (∀ kvs, o ≠ .dK kvs) → H' b = some o) ∧ ∀ b, H' b = none → H b = none
def Tk (H H' : Hp) : Prop := ∀ b xs, H b = some (.tup xs) → H' b = some (.tup xs)
section
variable {K : PySem.W.Frag} {H H1 H2 H0 : Hp} {a p q : Addr} {xs : List V} {o : HO}
theorem Ks.refl (H : Hp) : Ks H H := ⟨fun _ _ h _ => h, fun _ h => h⟩
theorem Ks.trans (a : Ks H H1) (b : Ks H1 H2) : Ks H H2 := ⟨fun c o h n => b.1 c o (a.1 c o h n) n, fun c h => a.2 c (b.2 c h)⟩
theorem Ks.of (s : Same H H1) : Ks H H1 := ⟨fun b o h _ => s b o h, fun b h => s.free h⟩
theorem Ks.tk (s : Ks H H1) : Tk H H1 := fun b xs h => s.1 b _ h (fun _ e => nomatch e)
theorem Ks.lst (s : Ks H H1) (h : H a = some (.lst xs)) : H1 a = some (.lst xs) := s.1 a _ h (fun _ e => nomatch e)
theorem Ks.tup (s : Ks H H1) (h : H a = some (.tup xs)) : H1 a = some (.tup xs) := s.1 a _ h (fun _ e => nomatch e)
theorem Ks.seq (s : Ks H H1) (h : SqL K H a xs) : SqL K H1 a xs := by
  rcases h with (h | ⟨o, h⟩) | h
  · exact .inl (.inl (s.1 _ _ h (fun _ e => nomatch e)))
  · exact .inl (.inr ⟨o, s.1 _ _ h (fun _ e => nomatch e)⟩)
  · exact .inr h
theorem Ks.seqT (s : Ks H H1) (h : SqT K H a xs) : SqT K H1 a xs := by
  rcases h with (h | ⟨o, h⟩) | h
  · exact .inl (.inl (s.1 _ _ h (fun _ e => nomatch e)))
  · exact .inl (.inr ⟨o, s.1 _ _ h (fun _ e => nomatch e)⟩)
  · exact .inr h
theorem Ks.free (s : Ks H H1) (h : H1 a = none) : H a = none := s.2 a h
theorem Ks.upd (s : Ks H0 H) (h : H0 p = none) (o : HO) : Ks H0 (upd H p o) := ⟨fun b u e n => by
  rw [upd_ne (ne_of_none e h)]
  exact s.1 b u e n, fun b e => by
  by_cases z : b = p
  · rw [z]; exact h
  · rw [upd_ne z] at e
    exact s.2 b e⟩
theorem Ks.new (s : Ks H0 H) (h : H p = none) (o : HO) : Ks H0 (L2.upd H p o) := s.upd (s.free h) o
theorem Ks.new1 (h : H p = none) (o : HO) : Ks H (L2.upd H p o) := (Ks.refl H).upd h o
theorem Ks.dict {kvs kvs' : List (Key × V)} (h : H p = some (.dK kvs)) : Ks H (L2.upd H p (.dK kvs')) := ⟨fun b u e n => by
  rw [upd_ne (fun z => by rw [z, h] at e; exact n kvs (Option.some.inj e).symm)]
  exact e, fun b e => by
  by_cases z : b = p
  · rw [z, upd_same] at e; cases e
  · rw [upd_ne z] at e; exact e⟩
theorem Tk.refl (H : Hp) : Tk H H := fun _ _ h => h
theorem Tk.trans (a : Tk H H1) (b : Tk H1 H2) : Tk H H2 := fun c xs h => b c xs (a c xs h)
theorem Tk.lst {ys : List V} (s : Tk H0 H) (h : H p = some (.lst ys)) : Tk H0 (L2.upd H p o) := fun b zs e => by
  have e1 := s b zs e
  rw [upd_ne (fun z => by rw [z, h] at e1; cases e1)]
  exact e1
theorem Tk.new (s : Tk H0 H) (h : H p = none) : Tk H0 (L2.upd H p o) := fun b zs e => by
  have e1 := s b zs e
  rw [upd_ne (ne_of_none e1 h)]
  exact e1
end
theorem szB {n : Nat} (h : n ≤ 1000000) : n ≤ sizeLine := Nat.le_trans h (by decide)
theorem szL {n : Nat} (h : n ≤ 1000000) : n < sizeLine := Nat.lt_of_le_of_lt h (by decide)
theorem sz24 {n : Nat} (h : n ≤ 1000000) : n ≤ 16777216 := Nat.le_trans h (by decide)

def signsL : List Nat := [10, 32, 33, 34, 35, 36, 38, 39, 40, 41, 42, 43, 44, 45, 46, 47, 48, 49, 50, 51, 52, 53, 54, 55, 56, 57, 58, 59, 60, 61, 62, 63, 64, 65, 66, 67, 68, 69, 70, 71, 72, 73, 74, 75, 76, 77, 78, 79, 80, 81, 82, 83, 84, 85, 86, 87, 88, 89, 90, 91, 92, 93, 94, 95, 96, 97, 98, 99, 100, 101, 102, 103, 104, 105, 106, 107, 108, 109, 110, 111, 112, 113, 114, 115, 116, 117, 118, 119, 120, 121, 122, 123, 124, 125, 126]
def lowL : List Nat := [97, 98, 99, 100, 101, 102, 103, 104, 105, 106, 107, 108, 109, 110, 111, 112, 113, 114, 115, 116, 117, 118, 119, 120, 121, 122]
def figL : List Nat := [48, 49, 50, 51, 52, 53, 54, 55, 56, 57]
/-! ### the pen: a dict of five entries -/
def pk (c : Addr) (at_ d ct fo : Int) : List (Key × V) := [(.inr "cells", .ref c), (.inr "at", .int at_), (.inr "digits", .int d), (.inr "count", .int ct), (.inr "fold", .int fo)]
def PenAt (H : Hp) (p c : Addr) (m : Nat) : Prop := ∃ (ns : List Int) (at_ d ct fo : Int), H p = some (.dK (pk c at_ d ct fo)) ∧ H c = some (.lst (ns.map V.int)) ∧ ns.length ≤ 63 ∧
  0 ≤ at_ ∧ 0 ≤ d ∧ 0 ≤ ct ∧ ct ≤ (m : Int) ∧ 0 ≤ fo ∧ fo < 2147483648
section
variable {H H1 : Hp} {p c q : Addr} {m n : Nat} {o : HO}
theorem PenAt.mono (h : PenAt H p c m) (l : m ≤ n) : PenAt H p c n := by
  obtain ⟨ns, a, d, t, f, h1, h2, h3, h4, h5, h6, h7, h8, h9⟩ := h
  exact ⟨ns, a, d, t, f, h1, h2, h3, h4, h5, h6, by omega, h8, h9⟩
theorem PenAt.upd (h : PenAt H p c m) (n1 : q ≠ p) (n2 : q ≠ c) : PenAt (L2.upd H q o) p c m := by
  obtain ⟨ns, a, d, t, f, h1, h2, r⟩ := h
  exact ⟨ns, a, d, t, f, by rw [upd_ne n1.symm]; exact h1, by rw [upd_ne n2.symm]; exact h2, r⟩
theorem PenAt.ne (h : PenAt H p c m) (e : H q = none) : q ≠ p ∧ q ≠ c := by
  obtain ⟨ns, a, d, t, f, h1, h2, r⟩ := h
  exact ⟨(ne_of_none h1 e).symm, (ne_of_none h2 e).symm⟩
theorem PenAt.new (h : PenAt H p c m) (e : H q = none) : PenAt (L2.upd H q o) p c m := h.upd (h.ne e).1 (h.ne e).2
theorem PenAt.same (h : PenAt H p c m) (s : Same H H1) : PenAt H1 p c m := by
  obtain ⟨ns, a, d, t, f, h1, h2, r⟩ := h
  exact ⟨ns, a, d, t, f, s _ _ h1, s _ _ h2, r⟩
end

section
variable {H : Hp} {p c : Addr} {a d t f z : Int}
theorem pg_cells (h : H p = some (.dK (pk c a d t f))) : DGet H p (.str "cells") (some (.ref c)) := .inl ⟨_, Sum.inr "cells", .inl h, rfl, rfl⟩
theorem pg_at (h : H p = some (.dK (pk c a d t f))) : DGet H p (.str "at") (some (.int a)) := .inl ⟨_, Sum.inr "at", .inl h, rfl, rfl⟩
theorem pg_digits (h : H p = some (.dK (pk c a d t f))) : DGet H p (.str "digits") (some (.int d)) := .inl ⟨_, Sum.inr "digits", .inl h, rfl, rfl⟩
theorem pg_count (h : H p = some (.dK (pk c a d t f))) : DGet H p (.str "count") (some (.int t)) := .inl ⟨_, Sum.inr "count", .inl h, rfl, rfl⟩
theorem pg_fold (h : H p = some (.dK (pk c a d t f))) : DGet H p (.str "fold") (some (.int f)) := .inl ⟨_, Sum.inr "fold", .inl h, rfl, rfl⟩
theorem pp_at (h : H p = some (.dK (pk c a d t f))) : DPut H p (.str "at") (.int z) (upd H p (.dK (pk c z d t f))) := .inl ⟨_, Sum.inr "at", h, rfl, szL (by show 5 ≤ 1000000; decide), rfl⟩
theorem pp_digits (h : H p = some (.dK (pk c a d t f))) : DPut H p (.str "digits") (.int z) (upd H p (.dK (pk c a z t f))) := .inl ⟨_, Sum.inr "digits", h, rfl, szL (by show 5 ≤ 1000000; decide), rfl⟩
theorem pp_count (h : H p = some (.dK (pk c a d t f))) : DPut H p (.str "count") (.int z) (upd H p (.dK (pk c a d z f))) := .inl ⟨_, Sum.inr "count", h, rfl, szL (by show 5 ≤ 1000000; decide), rfl⟩
theorem pp_fold (h : H p = some (.dK (pk c a d t f))) : DPut H p (.str "fold") (.int z) (upd H p (.dK (pk c a d t z))) := .inl ⟨_, Sum.inr "fold", h, rfl, szL (by show 5 ≤ 1000000; decide), rfl⟩
end

theorem ix_tupK {X : Cx} {K : PySem.W.Frag} (hK : X.K = K) : IxR X (rIxT K) := by subst hK; exact ix_tup
theorem ix_listK {X : Cx} {K : PySem.W.Frag} (hK : X.K = K) : IxR X (rIxL K) := by subst hK; exact ix_list
theorem ix_seqK {X : Cx} {K : PySem.W.Frag} (hK : X.K = K) : IxR X (rIx K) := by subst hK; exact ix_seq
theorem op_in_seqK {X : Cx} {K : PySem.W.Frag} (hK : X.K = K) : OpR X (compareOp .In) (rIn K false) := by subst hK; exact op_in_seq
theorem pe_c0 {X : Cx} {k j : Nat} {x : Str} {sp : Sp} {dvs : List V} {p pos : Pos} (c : C8.Cal X.prog X.w X.K X.mg X.base k x sp dvs) (hr : Room j X.A) (hk : k ≤ j) (hg : Gl X x) (hdb : (x == ("__debug__" : Str)) = false := by decide) :
    PE X (.Call (.Name x p) [] [] pos) (tCall sp dvs C8.E0 tNil) := by
  obtain ⟨f, fd, ps, ds, F, hm, kp, b, d⟩ := c.ex
  exact pe_call0 F (hr.mono hk) hg hm kp b d C8.pass0 hdb

/-! ### '..' * n -/
def repL (n : Nat) (l : List Nat) : List Nat := (List.replicate n l).flatten
theorem rep_nil : ∀ n : Nat, repL n [] = []
  | 0 => rfl
  | n + 1 => rep_nil n
theorem rep_len (l : List Nat) : ∀ n : Nat, (repL n l).length = n * l.length
  | 0 => by rw [Nat.zero_mul]; rfl
  | n + 1 => by
    show (l ++ repL n l).length = _
    rw [List.length_append, rep_len l n, Nat.succ_mul, Nat.add_comm]
theorem fold_rep (l acc : List Nat) : ∀ n : Nat, ((List.replicate n l.toArray).foldl (· ++ ·) acc.toArray) = (acc ++ repL n l).toArray
  | 0 => by
    show acc.toArray = (acc ++ []).toArray
    rw [List.append_nil]
  | n + 1 => by
    rw [List.replicate_succ, List.foldl_cons]
    rw [List.append_toArray acc l, fold_rep l (acc ++ l) n]
    unfold repL
    rw [List.replicate_succ, List.flatten_cons, List.append_assoc]
theorem op_rep_str {X : Cx} : OpR X (binaryOp .Mult) (fun x y H Q => ∃ (l : List Nat) (n : Nat), x = .str (S l) ∧ y = .int (n : Int) ∧ n ≤ 1000000 ∧ l.length * n ≤ 1000000 ∧ Q (.str (S (repL n l))) H) := by
  intro pins s σ H x y v u Q I rx ry h
  obtain ⟨l, n, rfl, rfl, hn, hl, q⟩ := h
  obtain ⟨t, rfl⟩ := rx
  obtain ⟨t', rfl⟩ := ry
  have e63 : (2 : Int) ^ 63 = 9223372036854775808 := by decide
  refine PySem.P.mul_str ?_ ?_ ?_ ?_
  · rw [decide_eq_false (by omega), decide_eq_false (by omega)]; rfl
  · intro h1 h2
    rw [S_len]
    have h3 : (1 : Int) ≤ n := by omega
    have h4 : (l.length : Int) * n ≤ 1000000 := by (rw [← Int.natCast_mul]; omega)
    have h5 : (l.length : Int) ≤ (2 ^ 63 - 1) / (n : Int) := by
      rw [Int.le_ediv_iff_mul_le (by omega)]
      omega
    omega
  · intro h1 h2
    rw [S_len]
    unfold Builtin.Str.tooLong
    have e : (sizeLine : Nat) = 16777216 := by decide
    rw [e]
    exact decide_eq_false (by rw [Int.toNat_natCast]; omega)
  · have r0 : repL 0 l = [] := rfl
    have r1 : repL 1 l = l := List.append_nil l
    by_cases c0 : n = 0
    · subst c0
      rw [if_pos (by decide)]
      exact ⟨by decide, ⟨.str (S (repL 0 l)), H, I.tok _, ⟨_, rfl⟩, q⟩⟩
    · rw [if_neg (by omega)]
      by_cases c1 : ((n : Int) == 1 || (S l).length == 0) = true
      · rw [if_pos c1]
        have er : repL n l = l := by
          rw [Bool.or_eq_true] at c1
          rcases c1 with c1 | c1
          · have : n = 1 := by
              have := of_decide_eq_true c1
              omega
            rw [this, r1]
          · rw [S_len] at c1
            have : l = [] := List.eq_nil_of_length_eq_zero (eq_of_beq c1)
            subst this
            exact rep_nil n
        rw [er] at q
        exact ⟨.str (S l), H, I, ⟨_, rfl⟩, q⟩
      · rw [if_neg c1]
        have e := fold_rep l [] n
        have e' : ((List.replicate n l.toArray).foldl (· ++ ·) #[]) = (repL n l).toArray := e
        have e2 : (n : Int).toNat = n := Int.toNat_natCast n
        have e3 : (⟨(List.replicate (n : Int).toNat (S l).cps).foldl (· ++ ·) #[]⟩ : Str) = S (repL n l) := by
          rw [e2]
          exact congrArg Str.mk e'
        rw [e3]
        have e24 : (sizeLine : Nat) = 16777216 := by decide
        refine ⟨?_, ⟨.str (S (repL n l)), H, I.tok _, ⟨_, rfl⟩, q⟩⟩
        have el := rep_len l n
        rw [S_len, el, e24, Nat.mul_comm]
        omega

/-! ### D.get(key, x) of a dict of the module, keys texts -/
def KD (K : PySem.W.Frag) (w : World) (d : Addr) (f : Str → Option V) : Prop := ∃ es n, K.lookup d = some ⟨.type "dict", none, .dict es n, #[]⟩ ∧ PySem.W.KeysLit w.params es.toList ∧ (d == sysModules) = false ∧ ∀ z, RelO (f z) (findBy Value.isStrOf es z)
def tKGet (K : PySem.W.Frag) (w : World) (td ty tx : TE) : TE := fun σ H Q => td σ H fun x H1 => ∃ d f, x = .ref d ∧ KD K w d f ∧ ty σ H1 fun y H2 => tx σ H2 fun z H3 => ∃ k, y = .str k ∧ Q ((f k).getD z) H3
theorem pe_kget {X : Cx} {o e f : Expr} {apos cpos : Pos} {td ty tx : TE} {K : PySem.W.Frag} {w : World} (hK : X.K = K) (hw : X.w = w) (ho : PE X o td) (he : PE X e ty) (hf : PE X f tx) (m : M2 X o "get" apos e f cpos) : PE X (.Call (.Attribute o "get" apos) [e, f] [] cpos) (tKGet K w td ty tx) := by
  subst hK hw
  refine ⟨fun pins s σ H Q I h => ?_⟩
  refine wpAny_Call_method m.base m.few m.line PySem.F.plainAttrs_dict PySem.F.slot_dict_get PySem.F.type_dict_get (thn (ho.run pins s σ H _ I h) fun u s1 ⟨x, H1, I1, rx, d, g, ex, ⟨es, n, hl, hk, low, hg⟩, q1⟩ => ?_)
  subst ex
  obtain rfl : u = Value.ref d := rx
  have hm := PySem.W.mapOf_K (prog := X.prog) (w := X.w) I1.kIn hl hk
  refine ⟨hm.typeIs, fun b q => ?_, ?_⟩
  · cases q
    exact ⟨_, I1.kIn _ _ hl, rfl⟩
  rw [m.trees]
  refine Calls.callWith_builtin rfl (Calls.evalArgs_plain (Calls.spliced_cons (thn (he.run pins s1 σ H1 _ I1 q1) fun iv s2 ⟨y, H2, I2, ry, q2⟩ =>
    Calls.spliced_cons (thn (hf.run pins s2 σ H2 _ I2 q2) fun fv s3 ⟨z, H3, I3, rz, k, ey, q3⟩ => Calls.spliced_nil ?_))))
  subst ey
  obtain ⟨t, rfl⟩ := ry
  have hm3 := PySem.W.mapOf_K (prog := X.prog) (w := X.w) I3.kIn hl hk
  refine call_meetsIn PySem.F.slot_dict_get hm3.typeIs PySem.F.entry_dict_get (PySem.F.args_dict_get_3 _ _ _) (meets_dict_get_default (strKind X.prog X.w) d (strKind_is X.prog X.w k t) low fv) ⟨_, hm3, ⟨_, H3, I3.tok _, ?_, q3⟩⟩
  exact (hg k).getD rz
end Vf

set_option maxRecDepth 100000
set_option maxHeartbeats 4000000
namespace Vf
open PySem PySem.Spec PyProof.Rows L2 SX
/-! ### defs that may raise -/
structure CalX (P : Program) (w : World) (K : PySem.W.Frag) (mg : Str → Option Value) (base : Heap) (k : Nat) (x : Str) (sp : Sp) : Prop where
  ex : ∃ (f : Addr) (fd : FuncData) (ps : List Str), FnOk P w K mg base (L2.CX P w) k f fd ps sp ∧ mg x = some (.ref f) ∧ PySem.W.keepIn K (.ref f) = true ∧ Binds K fd ps []
structure MetX (P : Program) (w : World) (K : PySem.W.Frag) (mg : Str → Option Value) (base : Heap) (k : Nat) (C : Addr) (m : Str) (sp : Sp) : Prop where
  ex : ∃ (f : Addr) (fd : FuncData) (ps : List Str), Cls K C ∧ Meth K C m f ∧ FnOk P w K mg base (L2.CX P w) k f fd ps sp ∧ Binds K fd ps []
section
variable {P : Program} {w : World} {K : PySem.W.Frag} {mg : Str → Option Value} {base : Heap}
theorem fnX {x q : Str} {st : Stmt} {f : Addr} {fd : FuncData} {N ps : List Str} {k : Nat} {sp : Sp} (F : C8.Fun K x q st f fd) (S : FnScope N ps (C8.fnScope st)) (len : ∀ vs H Q E, sp vs H Q E → vs.length = ps.length)
    (hb : ∀ (c : Value) (A : Around) (outer : List Env) (s : Shared) (H : Hp) (vs : List V) (Q : VK) (E : XK), Room k (A.deeper (envOfC q (C8.fnScope st) s.heap.objs.size f c)) → sp vs H Q E →
      ∃ t, PSs (cxOf (L2.CX P w) P w K mg base N q (C8.fnScope st) f c A outer s H E) (C8.fnBody st) t ∧ t { nx := fun _ h => Q .non h, rt := Q } (start N vs) H) : FnOk P w K mg base (L2.CX P w) (k + 1) f fd ps sp := by
  obtain ⟨oc, od, dV, kV, dc, pm, an, c, ct, sl, rfl, lk, hc⟩ := F.ex
  exact fn_of lk hc S len fun A outer s H vs Q E hr h => hb c A outer s H vs Q E hr h
theorem calX {x : Str} {st : Stmt} {f : Addr} {fd : FuncData} {N ps : List Str} {k : Nat} {sp : Sp} (F : C8.Def K mg x st f fd) (b : Binds K fd ps []) (S : FnScope N ps (C8.fnScope st)) (len : ∀ vs H Q E, sp vs H Q E → vs.length = ps.length)
    (hb : ∀ (c : Value) (A : Around) (outer : List Env) (s : Shared) (H : Hp) (vs : List V) (Q : VK) (E : XK), Room k (A.deeper (envOfC x (C8.fnScope st) s.heap.objs.size f c)) → sp vs H Q E →
      ∃ t, PSs (cxOf (L2.CX P w) P w K mg base N x (C8.fnScope st) f c A outer s H E) (C8.fnBody st) t ∧ t { nx := fun _ h => Q .non h, rt := Q } (start N vs) H) : CalX P w K mg base (k + 1) x sp :=
  ⟨f, fd, ps, fnX F.fn S len hb, F.mgf, F.kp, b⟩
theorem metX {m q : Str} {C : Addr} {st : Stmt} {f : Addr} {fd : FuncData} {N ps : List Str} {k : Nat} {sp : Sp} (c : Cls K C) (me : Meth K C m f) (F : C8.Fun K m q st f fd) (b : Binds K fd ps []) (S : FnScope N ps (C8.fnScope st)) (len : ∀ vs H Q E, sp vs H Q E → vs.length = ps.length)
    (hb : ∀ (c : Value) (A : Around) (outer : List Env) (s : Shared) (H : Hp) (vs : List V) (Q : VK) (E : XK), Room k (A.deeper (envOfC q (C8.fnScope st) s.heap.objs.size f c)) → sp vs H Q E →
      ∃ t, PSs (cxOf (L2.CX P w) P w K mg base N q (C8.fnScope st) f c A outer s H E) (C8.fnBody st) t ∧ t { nx := fun _ h => Q .non h, rt := Q } (start N vs) H) : MetX P w K mg base (k + 1) C m sp :=
  ⟨f, fd, ps, c, me, fnX F S len hb, b⟩
end
section
variable {X : Cx} {k j : Nat} {x m : Str} {C : Addr} {sp : Sp} {p pos apos : Pos} {e o : Expr} {es : List Expr} {t : TA} {ta : TE} {W : WX}
/-- such a def called where what it raises is wished for -/
theorem pe_cx (c : CalX X.prog X.w X.K X.mg X.base k x sp) (hr : Room j X.A) (hk : k ≤ j) (hg : Gl X x) (tk : Takes X W) (ha : PA X (e :: es) t)
    (hdb : (x == ("__debug__" : Str)) = false := by decide) (he : starEach (e :: es) X.env = (false, eval e X.env) :: starEach es X.env := by rfl) (hpl : (backTo pos (starEach es X.env)).any (·.1) = false := by rfl) :
    PE X (.Call (.Name x p) (e :: es) [] pos) (tCallS sp (WE W) t) := by
  obtain ⟨f, fd, ps, F, hm, kp, b⟩ := c.ex
  exact pe_callS F (hr.mono hk) hg hm kp b (fun σ => passAt tk σ) ha hdb he hpl
/-- .. called where it raises nothing -/
theorem pe_cx0 (c : CalX X.prog X.w X.K X.mg X.base k x sp) (hr : Room j X.A) (hk : k ≤ j) (hg : Gl X x) (ha : PA X (e :: es) t)
    (hdb : (x == ("__debug__" : Str)) = false := by decide) (he : starEach (e :: es) X.env = (false, eval e X.env) :: starEach es X.env := by rfl) (hpl : (backTo pos (starEach es X.env)).any (·.1) = false := by rfl) :
    PE X (.Call (.Name x p) (e :: es) [] pos) (tCall sp [] E0 t) := by
  obtain ⟨f, fd, ps, F, hm, kp, b⟩ := c.ex
  exact pe_call F (hr.mono hk) hg hm kp b .nil passL ha hdb he hpl
def tMx (C : Addr) (m : Str) (sp : Sp) (E : L2.St → XK) (ta : TE) (t : TA) : TE := fun σ H Q => ta σ H fun v H1 => ∃ a dx fs, v = .ref a ∧ H1 a = some (.ins C dx fs) ∧ fs.lookup m = none ∧ t σ H1 fun vs H2 => sp (v :: vs) H2 Q (E σ)
/-- o.m(e, ..) that may raise -/
theorem pe_mx {pl : Sem Bool} (c : MetX X.prog X.w X.K X.mg X.base k C m sp) (hr : Room j X.A) (hk : k ≤ j) (tk : Takes X W) (he : PE X o ta) (ha : PA X (e :: es) t)
    (hst : starEach (e :: es) X.env = (false, eval e X.env) :: starEach es X.env := by rfl) (hpl : (backTo pos (starEach es X.env)).any (·.1) = false := by rfl)
    (ht : eval (.Call (.Attribute o m apos) (e :: es) [] pos) X.env = (do
      let ov ← eval o X.env
      standAt apos.atName
      let (f, first) ← holding [ov] (getMethod ov m pl)
      callWith pos f first (backTo pos (starEach (e :: es) X.env)) (backToKw pos (keywordEach [] X.env))) := by rfl) :
    PE X (.Call (.Attribute o m apos) (e :: es) [] pos) (tMx C m sp (WE W) ta t) := by
  obtain ⟨f, fd, ps, hc, hm, F, b⟩ := c.ex
  refine ⟨fun pins s σ H Q I h => ?_⟩
  refine PySem.W.methodCall_KW (pl := pl) (thn (he.run pins s σ H _ I h) fun u s1 ⟨v, H1, I1, rx, a, dx, fs, ex, ea, l, q⟩ => ?_) ht
  subst ex
  obtain rfl : u = Value.ref a := rx
  refine getmeth_ok I1 ea hc hm l ?_
  refine PySem.W.callWith_K (first := [.ref a]) (h₀ := X.base) I.ok.mod.kin hm.kp (thn (ha.run pos pins s1 σ H1 _ I1 q) fun us s2 ⟨vs, H2, I2, r, q2⟩ => ⟨I2.kIn, ?_⟩) hst hpl
  exact run_fnS (us := .ref a :: us) (vs := .ref a :: vs) F (hr.mono hk) b (passAt tk σ) I2 (.cons rfl r) q2
/-- o.m() that may raise -/
theorem pe_mx0 {pl : Sem Bool} (c : MetX X.prog X.w X.K X.mg X.base k C m sp) (hr : Room j X.A) (hk : k ≤ j) (tk : Takes X W) (he : PE X o ta)
    (ht : eval (.Call (.Attribute o m apos) [] [] pos) X.env = (do
      let ov ← eval o X.env
      standAt apos.atName
      let (f, first) ← holding [ov] (getMethod ov m pl)
      callWith pos f first (backTo pos (starEach [] X.env)) (backToKw pos (keywordEach [] X.env))) := by rfl) :
    PE X (.Call (.Attribute o m apos) [] [] pos) (tMx C m sp (WE W) ta tNil) := by
  obtain ⟨f, fd, ps, hc, hm, F, b⟩ := c.ex
  refine ⟨fun pins s σ H Q I h => ?_⟩
  refine PySem.W.methodCall_KW (pl := pl) (thn (he.run pins s σ H _ I h) fun u s1 ⟨v, H1, I1, rx, a, dx, fs, ex, ea, l, q⟩ => ?_) ht
  subst ex
  obtain rfl : u = Value.ref a := rx
  refine getmeth_ok I1 ea hc hm l ?_
  exact PySem.W.callWith_K0 (first := [.ref a]) I1.kIn hm.kp (run_fnS (us := [.ref a]) (vs := [.ref a]) F (hr.mono hk) b (passAt tk σ) I1 (.cons rfl .nil) q)
end
/-! ### own exceptions raised -/
/-- __init__ of such: its arguments under these names, in a new dict -/
def sp_inx (C : Addr) (fs : List Str) : Sp := fun xs H Q _ => ∃ (a : Addr) (ys : List V), xs = .ref a :: ys ∧ ys.length = fs.length ∧ H a = some (exo a C none) ∧
  ∀ (d : Addr) (H2 : Hp), H d = none → d ≠ a → H2 a = some (exo a C (some d)) → H2 d = some (exd d (fs.zip ys).reverse) → (∀ b o, b ≠ a → H b = some o → H2 b = some o) → (∀ b, H2 b = none → H b = none) → Q .non H2
def tImp (ta : TA) : TA := fun σ H Q => ∃ Q0 : List V → Hp → Prop, ta σ H Q0 ∧ ∀ vs H1, Q0 vs H1 → Q vs H1
theorem pa_imp {X : Cx} {es : List Expr} {ta : TA} (ha : PA X es ta) : PA X es (tImp ta) := ⟨fun pos pins s σ H Q I ⟨Q0, h, i⟩ => thn (ha.run pos pins s σ H Q0 I h) fun us s1 ⟨vs, H1, I1, r, q⟩ => ⟨vs, H1, I1, r, i vs H1 q⟩⟩
structure Rc (K : PySem.W.Frag) (mg : Str → Option Value) (n : Str) (C : Addr) : Prop where
  g : mg n = some (.ref C)
  o : OexC K C
  x : XfC K C
structure Rk (P : Program) (w : World) (K : PySem.W.Frag) (mg : Str → Option Value) (base : Heap) (n : Str) (C : Addr) (fs : List Str) : Prop where
  rc : Rc K mg n C
  no : ∀ f ∈ fs, PySem.W.findIn K (.ref C) f = some none
  ini : ∃ (fI : Addr) (fd : FuncData) (ps : List Str), PySem.W.findIn K (.ref C) "__init__" = some (some (.ref fI)) ∧ PySem.W.typeIn K (.ref fI) = some (.type "function") ∧ FnOk P w K mg base C8.CX0 1 fI fd ps (sp_inx C fs) ∧ Binds K fd ps []
def tRx (C : Addr) (fs : List Str) (W : WX) (ta : TA) : TS := fun _ σ H => ta σ H fun vs H1 => vs.length = fs.length ∧ ∀ (d : Addr) (H2 : Hp), H1 d = none → H2 d = some (.xd (fs.zip vs).reverse) → Same H1 H2 → W (.ref C) (some d) σ H2
theorem ps_rx {X : Cx} {n : Str} {C : Addr} {fs : List Str} {j : Nat} {e : Expr} {es : List Expr} {ta : TA} {W : WX} {p pos pos2 : Pos} (E : Rk X.prog X.w X.K X.mg X.base n C fs) (hr : Room j X.A) (hj : 2 ≤ j) (hg : Gl X n) (hc : X.calm = true) (tk : Takes X W) (ha : PA X (e :: es) ta) (hf : fs.length < 100 := by decide)
    (hdb : (n == ("__debug__" : Str)) = false := by decide) (he : starEach (e :: es) X.env = (false, eval e X.env) :: starEach es X.env := by rfl) (hpl : (backTo pos (starEach es X.env)).any (·.1) = false := by rfl) :
    PS X (.Raise (some (.Call (.Name n p) (e :: es) [] pos)) none pos2) (tRx C fs W ta) := by
  obtain ⟨fI, fd, ps, i1, i2, F, b⟩ := E.ini
  refine ⟨fun pins s σ H D I h => (ps_raise hc tk (pmk_oex E.rc.o i1 i2 F (hr.mono hj) b .nil pass0 hg E.rc.g (pa_imp ha) hdb he hpl)).run pins s σ H D I ?_⟩
  refine ⟨_, h, fun vs H1 q => ?_⟩
  obtain ⟨hl, q⟩ := q
  refine ⟨by omega, fun a hn => ⟨a, vs ++ [], rfl, by rw [List.append_nil]; exact hl, upd_same, fun d H2 hd nd e1 e2 keep fr => ?_⟩⟩
  rw [List.append_nil] at e2
  rw [upd_ne nd] at hd
  refine ⟨rfl, d, (fs.zip vs).reverse, e1, e2, hd, q d _ hd upd_same fun b o z => ?_⟩
  have nb : b ≠ a := ne_of_none z hn
  rw [upd_ne (ne_of_none z hd), del_ne nb]
  exact keep b o nb (by rw [upd_ne nb]; exact z)
/-! ### try with several clauses that name the error alike -/
def wManyA (K : PySem.W.Frag) (i : Nat) (Wout : WX) (D : Ends) : List (Value × (Addr → Value → Option Addr → TS)) → WX
  | [] => Wout
  | (c, ts) :: r => fun cls d σ H => ∃ b, PySem.W.exmOne K cls c = some b ∧
      (b = true → ∀ a, H a = none → ts a cls d { nx := fun σ' H' => D.nx (σ'.set i none) H', rt := D.rt, bk := fun σ' H' => D.bk (σ'.set i none) H', ct := fun σ' H' => D.ct (σ'.set i none) H' } (σ.set i (some (.ref a))) H) ∧ (b = false → wManyA K i Wout D r cls d σ H)
inductive HdsA (X : Cx) (n : Str) : List ExceptHandler → List (Value × (Addr → Value → Option Addr → TS)) → Prop
  | nil : HdsA X n [] []
  | cons {x : Str} {c : Value} {ts : Addr → Value → Option Addr → TS} {b₀ : Stmt} {suite : List Stmt} {np pos' : Pos} {hds : List ExceptHandler} {l : List (Value × (Addr → Value → Option Addr → TS))} (hc : Names X x c)
      (hsu : ∀ (a : Addr) (oe : Obj) (cls : Value) (d : Option Addr) (pn : List (Addr × Obj)), Zc cls d oe → (∃ vs, oe.data = .fields vs) → PSs (X.suite a ((a, oe) :: pn)) (b₀ :: suite) (ts a cls d)) (r : HdsA X n hds l) :
      HdsA X n (.ExceptHandler (some (.Name x np)) (some n) (b₀ :: suite) pos' :: hds) ((c, ts) :: l)
theorem ps_try_ma {X : Cx} {n : Str} {i : Nat} {body : List Stmt} {h₀ : ExceptHandler} {hds : List ExceptHandler} {l : List (Value × (Addr → Value → Option Addr → TS))} {pos : Pos} {tb : WX → TS} {Wout : WX}
    (hs : X.stack = X.env :: X.outer) (hf : X.env.frame = some X.env.locals) (hN : X.N.Nodup) (hi : X.N[i]? = some n) (hln : X.env.kindOf n = some .local) (tk : Takes X Wout)
    (hb : ∀ (W : WX) (pn : List (Addr × Obj)) (xe : Value → Shared → Prop), Takes (X.tr pn xe) W → PassesOwn (model X.prog X.w) X.A X.env xe → PSs (X.tr pn xe) body (tb W))
    (hh : HdsA X n (h₀ :: hds) l) : PS X (.Try body (h₀ :: hds) [] [] pos) (fun D σ H => tb (wManyA X.K i Wout D l) D σ H) := by
  refine ⟨fun pins s σ H D I h => ?_⟩
  have ok := I.ok
  have hfr : X.A.frames = some (X.env :: X.outer) := by rw [ok.frames, hs]
  have hloc : Loc X.env.scope n := .inl hln
  refine wpAny_Try_except ?_
  refine wpAny_mono ((hb (wManyA X.K i Wout D l) (X.pn ++ pins) (fun e s₁ => wpAny (model X.prog X.w) X.A (noteFrame e X.env) (fun _ s₂ => wpAny (model X.prog X.w) X.A (setFlight e none) (fun _ s₃ =>
    wpAny (model X.prog X.w) X.A (handleBy e X.env (h₀ :: hds)) (SP X pins D) X.xe s₃) X.xe s₂) X.xe s₁) (fun u s' xx => ?_) PassesOwn.looking).run [] s σ H D (I.toTry _) h) (fun f s1 hsp => ?_) (fun e s1 he => he)
  · obtain ⟨a, B, sI, pins', σ', H', cls, d, rfl, J', nb, up, sky, na, os, ag, w⟩ := xx
    have J : Inv X pins σ' H' sI := J'.ofTry ok
    have sky' : Sky B (X.env :: X.outer) a (Zc cls d) X.env.locals s'.heap := by rw [← hs]; exact sky
    show wpAny (model X.prog X.w) X.A (noteFrame (.ref a) X.env) _ _ _
    refine Sky.land Zc.steady hfr hf sky' fun h3 fl3 up3 => ?_
    have J3 : Inv X pins σ' H' { s' with heap := h3 } := J.landed nb fl3.1 (up.trans up3) os ag
    obtain ⟨oe3, vs3, he3, hz3, hd3⟩ := fl3.there
    have notFr : ∀ {h : Heap} {o : Obj} {vs : Array Value}, h.FunFrames B (X.env :: X.outer) → h.get? a = some o → o.data = .fields vs → a ∉ frs (X.env :: X.outer) := fun {h o vs} ff e dd hm => by
      obtain ⟨_, o', e', hnf⟩ := ff.mem hm
      rw [e] at e'; cases e'
      exact hnf _ dd
    have nfr := notFr fl3.2.2.1 he3 hd3
    have nL : a ≠ X.env.locals := fun z => nfr (List.mem_filterMap.mpr ⟨X.env, List.mem_cons_self, by rw [hf, z]⟩)
    have nF : a ∉ X.fs := fun hm => by
      obtain ⟨e, he, q⟩ := List.mem_filterMap.mp hm
      exact nfr (List.mem_filterMap.mpr ⟨e, List.mem_cons_of_mem _ he, q⟩)
    have S3 := J3.suite he3 hd3 na nL nF
    have go : ∀ {hds' : List ExceptHandler} {l' : List (Value × (Addr → Value → Option Addr → TS))}, HdsA X n hds' l' → wManyA X.K i Wout D l' cls d σ' H' →
        wpAny (model X.prog X.w) X.A (handleBy (.ref a) X.env hds') (SP X pins D) X.xe { s' with heap := h3 } := by
      intro hds' l' hk
      induction hk with
      | nil =>
        intro w
        refine wpAny_handleBy_nil ?_
        obtain ⟨k1, k2, k3, oe, vs, T, oT, ts', he, hz, hd, h1, hr⟩ := id fl3
        unfold PySem.passOn
        refine wpAny_bind (wpAny_field he hd h1 ?_)
        rw [if_neg (show ¬ ((Value.ref T == Value.none) = true) from by simp)]
        have fin : wpAny (model X.prog X.w) X.A (setFlight (.ref a) X.env.frame) (fun _ s4 => wpAny (model X.prog X.w) X.A (throw (.ref a) : Sem Flow) (SP X pins D) X.xe s4) X.xe { s' with heap := h3 } := by
          rw [hf]
          refine HandSPX.setFlight_upZ fl3 fun h4 hh4 up4 => wpAny_throw (tk _ _ ?_)
          exact ⟨a, B, sI, pins, σ', H', cls, d, rfl, J, nb, (up.trans up3).trans up4, .inr (.inr (by rw [hs]; exact hh4)), na, os, ag, w⟩
        first
          | exact wpAny_bind (wpAny_pure (wpAny_bind fin))
          | exact wpAny_bind fin
      | @cons x c ts b₀ suite np pos' hds2 l2 hc hsu r ih =>
        intro w
        obtain ⟨b, hb1, hyes, hno⟩ := w
        refine wpAny_handleBy_cons (codeAny_handlers_test ?_) (by intro q; cases q)
        have LT : PySem.W.Looks (model X.prog X.w) h3 (typeOf (.ref a)) cls := fun A Q E s k q => wpAny_typeOf_ref (k _ _ he3) (by rw [hz3.1]; exact q)
        have LM := PySem.W.exm_one (M := model X.prog X.w) (J3.kIn) LT hb1
        have test : ∀ {Q : Value → Shared → Prop} {E : Value → Shared → Prop}, Q c { s' with heap := h3 } → wpAny (model X.prog X.w) (X.A.mark (some (.ref a))) (eval (.Name x np) X.env) Q E { s' with heap := h3 } := fun {Q E} q => by
          obtain ⟨hg, hdbg, hm | ⟨hm, hv, hnn⟩⟩ := hc
          · exact ld_glob (X := X.suite a ((a, oe3) :: (X.pn ++ pins))) S3 hg hm q hdbg
          · exact ld_blt (X := X.suite a ((a, oe3) :: (X.pn ++ pins))) S3 hg hm hv q hnn hdbg
        refine test (LM.here ?_)
        cases b with
        | true =>
          refine codeAny_handlers_suite_as ?_
          refine HandSPX.lands_againZ fl3 fun h4 fl4 up4 => ?_
          have J4 : Inv X pins σ' H' { s' with heap := h4 } := J.landed nb fl4.1 ((up.trans up3).trans up4) os ag
          obtain ⟨oe4, vs4, he4, hz4, hd4⟩ := fl4.there
          have S4 := J4.suite he4 hd4 na nL nF
          refine store_ok (X := X.suite a ((a, oe4) :: (X.pn ++ pins))) (v := .ref a) S4 hN hi hloc rfl (fun s5 S5 => ?_) (.inr hln)
          refine wpAny_mono ((hsu a oe4 cls d (X.pn ++ pins) hz4 ⟨_, hd4⟩).run [] s5 _ H' _ S5 (hyes rfl a na)) (fun f s6 hsp => ?_) (fun _ _ z => False.elim z)
          have end_ : ∀ {σ6 : L2.St} {H6 : Hp} {Q : Shared → Prop}, Inv (X.suite a ((a, oe4) :: (X.pn ++ pins))) [] σ6 H6 s6 → (∀ s7, Inv X pins (σ6.set i none) H6 s7 → Q s7) →
              wpAny (model X.prog X.w) X.A (do bindName X.env n .none; unbindBehindTheSuite X.env n pos') (fun _ s7 => Q s7) X.xe s6 := fun {σ6 H6 Q} S6 hq => gone_ok (S6.unsuite ok) hN hi hln hq
          cases f with
          | next =>
            obtain ⟨σ6, H6, S6, q6⟩ := hsp
            exact end_ S6 fun s7 J7 => ⟨_, _, J7, q6⟩
          | brk =>
            obtain ⟨σ6, H6, S6, q6⟩ := hsp
            exact end_ S6 fun s7 J7 => ⟨_, _, J7, q6⟩
          | cont =>
            obtain ⟨σ6, H6, S6, q6⟩ := hsp
            exact end_ S6 fun s7 J7 => ⟨_, _, J7, q6⟩
          | ret u =>
            obtain ⟨v6, σ6, H6, S6, r6, q6⟩ := hsp
            exact end_ S6 fun s7 J7 => ⟨_, _, _, J7, r6, q6⟩
        | false =>
          show wpAny _ X.A (handleBy (.ref a) X.env hds2) _ _ _
          exact ih (hno rfl)
    exact go hh w
  · cases f with
    | next =>
      obtain ⟨σ', H', J', q⟩ := hsp
      exact wpAny_execs_nil ⟨σ', H', J'.ofTry ok, q⟩
    | brk =>
      obtain ⟨σ', H', J', q⟩ := hsp
      exact ⟨σ', H', J'.ofTry ok, q⟩
    | cont =>
      obtain ⟨σ', H', J', q⟩ := hsp
      exact ⟨σ', H', J'.ofTry ok, q⟩
    | ret u =>
      obtain ⟨v, σ', H', J', r, q⟩ := hsp
      exact ⟨v, σ', H', J'.ofTry ok, r, q⟩
end Vf

set_option maxRecDepth 100000
set_option maxHeartbeats 4000000
namespace Vf
open PySem PySem.Spec PyProof.Rows L2 SX
/-! ### == and != by an own __eq__, either answer -/
structure OwnC (K : PySem.W.Frag) (C f : Addr) : Prop where
  cls : ∃ (nm q : Str) (N : Addr) (bs : List Value) (hdct : Bool) (sn : List Str) (sub : List Value) (ab : Bool) (col : Option Bool) (dd : Option Addr) (k0 k1 k2 k3 k5 : Option Value) (newId : String),
    K.lookup C = some (excClassObj nm q C N bs [.type "object"] hdct sn sub ab col dd k0 k1 k2 k3 k5 newId) ∧ PySem.W.nsOkIn K N = true ∧ PySem.W.nsIn K N "__eq__" = some (some (.ref f)) ∧ PySem.W.nsIn K N "__ne__" = some none
  hs : PySem.W.findIn K (.ref C) "__eq__" = some (some (.ref f))
  hf : PySem.W.isFn K (.ref f) = true
def spEqI (R : Addr → Addr → Bool → Hp → Prop) : Sp := fun vs H Q _ => ∃ a b r, vs = [.ref a, .ref b] ∧ R a b r H ∧ ∀ H', Same H H' → Q (.bl r) H'
def rEqI (C : Addr) (n : Bool) (R : Addr → Addr → Bool → Hp → Prop) : R2 := fun x y H Q => ∃ a b r dx dy fs gs, x = .ref a ∧ y = .ref b ∧ H a = some (.ins C dx fs) ∧ H b = some (.ins C dy gs) ∧ R a b r H ∧ ∀ H', Same H H' → Q (.bl (r != n)) H'
theorem ns_some {K : PySem.W.Frag} {h : Heap} {N : Addr} {m : Str → Option Value} {n : Str} {v : Value} (X : K.In h) (G : h.Ns N m) (e : PySem.W.nsIn K N n = some (some v)) : m n = some v := by
  obtain ⟨o, es, ep, ho, hd, _, hf⟩ := G
  unfold PySem.W.nsIn at e
  split at e
  · rename_i c d es' n' sl q
    have := X _ _ q
    rw [ho] at this
    cases this
    cases hd
    split at e
    · rename_i en he
      cases e
      rw [← hf]
      unfold nsFind findBy
      rw [← Array.find?_toList, he]
      rfl
    · split at e <;> cases e
  · cases e
section
variable {X : Cx} {C f : Addr} {fd : FuncData} {ps : List Str} {R : Addr → Addr → Bool → Hp → Prop} {k j : Nat}
theorem op_eqI (O : OwnC X.K C f) (F : FnOk X.prog X.w X.K X.mg X.base C8.CX0 k f fd ps (spEqI R)) (hb : Binds X.K fd ps []) (hr : Room j X.A) (hj : k ≤ j) : OpR X (compareOp .Eq) (rEqI C false R) := by
  intro pins s σ H x y v u Q I rx ry hq
  obtain ⟨a, b, r, dx, dy, fs, gs, rfl, rfl, ha, hb', hr', q⟩ := hq
  cases rx
  cases ry
  show wpAny (model X.prog X.w) X.A (richCompare .Eq (.ref a) (.ref b)) (EP X pins σ Q) X.xe s
  obtain ⟨mA, J, _⟩ := ins_get I.hok ha
  obtain ⟨mB, J', _⟩ := ins_get I.hok hb'
  obtain ⟨od, J, _⟩ := J.look
  obtain ⟨od', J', _⟩ := J'.look
  obtain ⟨m, hF⟩ := I.fr
  refine PySem.W.cmp_K (op := .Eq) (tb := .ref C) hr.units0 hF I.ok.mod.kin J J'.type (by simp [PySem.W.notFirst]) O.hs O.hf ?_
  refine thn (run_fn (us := [.ref a, .ref b]) (vs := [.ref a, .ref b]) (Q := fun v H' => v = .bl r ∧ Same H H') F (hr.mono hj) hb .nil pass0 I (.cons rfl (.cons rfl .nil)) ⟨a, b, r, rfl, hr', fun H' e => ⟨rfl, e⟩⟩) fun z s1 hz => ?_
  obtain ⟨v, H', I1, rv, e, sm⟩ := hz
  subst e
  obtain rfl : z = Value.bool r := rv
  refine ⟨.bl (r != false), H', I1, ?_, q H' sm⟩
  show Value.bool r = Value.bool (r != false)
  cases r <;> rfl
theorem op_neI (O : OwnC X.K C f) (F : FnOk X.prog X.w X.K X.mg X.base C8.CX0 k f fd ps (spEqI R)) (hb : Binds X.K fd ps []) (hr : Room j X.A) (hj : k + 1 ≤ j) : OpR X (compareOp .NotEq) (rEqI C true R) := by
  intro pins s σ H x y v u Q I rx ry hq
  obtain ⟨a, b, r, dx, dy, fs, gs, rfl, rfl, ha, hb', hr', q⟩ := hq
  cases rx
  cases ry
  obtain ⟨mA, J, _⟩ := ins_get I.hok ha
  obtain ⟨mB, J', _⟩ := ins_get I.hok hb'
  obtain ⟨nm, qn, N, bs, hdct, sn, sub, ab, col, dd, k0, k1, k2, k3, k5, newId, lC, nk, ne, nn⟩ := O.cls
  have KX := I.kIn
  have G : s.heap.Ns N (s.heap.nsMap N) := .of_isNs (PySem.W.isNs_of_in KX nk)
  have tf : PySem.W.typeIn X.K (.ref f) = some (.type "function") := beq_iff_eq.mp O.hf
  obtain ⟨of, lf, hcf⟩ := Option.map_eq_some_iff.mp (show (X.K.lookup f).map (·.cls) = some (.type "function") from tf)
  have W : s.heap.OwnEqNoNe a C f "object" [.type "object"] :=
    ⟨_, of, nm, qn, N, bs, hdct, sn, sub, ab, col, dd, k0, k1, k2, k3, k5, newId, _, _, J.obj, rfl, KX _ _ lC, G, ns_some KX G ne, KX _ _ lf, hcf, PySem.F.cmp_object.mro, PySem.F.cmp_object.eq.lookup, PySem.W.ns_none_of KX G nn⟩
  have e0 : Env0 X.prog X.w X.K X.mg X.base X.A.in1 X.stack s H := by
    have e := I.env0
    exact ⟨e.frames, e.mod, e.bs, e.bsz, e.funs, e.frf, e.hok, e.bare⟩
  have hsp : spEqI R [.ref a, .ref b] H (fun v H' => v = .bl r ∧ Same H H') (fun _ _ _ => False) := ⟨a, b, r, rfl, hr', fun H' e => ⟨rfl, e⟩⟩
  have hl := F.len _ _ _ _ hsp
  have hu : X.A.units + 1 < cLine := (hr.mono hj).in1.units0
  have run := F.run X.A.in1 X.stack s H ⟨[.ref a, .ref b], []⟩ [.ref a, .ref b] [.ref a, .ref b] _ (fun _ _ _ => False) ((hr.mono hj).in1) e0 (by
    have := hb s [.ref a, .ref b] KX (by simpa using hl)
    simpa using this) (.cons rfl (.cons rfl .nil)) hsp
  obtain ⟨hp, g, d, t, os⟩ := s
  refine compareOp_ne_ownEq (prog := X.prog) (w := X.w) PySem.F.cmp_object W J'.obj rfl hu (wpAny_call (codeAny_mono run fun z s' hz => ?_))
  cases z with
  | error e => exact pass0 pins σ H _ e s' I hz
  | ok fl =>
    cases fl with
    | ret w =>
      obtain ⟨v, H', I1, rv, ev, sm⟩ := I.after hz
      subst ev
      obtain rfl : w = Value.bool r := rv
      refine ⟨r, rfl, .bl (r != true), H', I1, ?_, q H' sm⟩
      show Value.bool (!r) = Value.bool (r != true)
      cases r <;> rfl
    | next => exact False.elim hz
    | brk => exact False.elim hz
    | cont => exact False.elim hz
/-- one of two rules for an operator -/
theorem op_alt {g : Value → Value → Sem Value} {r1 r2 : R2} (h1 : OpR X g r1) (h2 : OpR X g r2) : OpR X g (fun x y H Q => r1 x y H Q ∨ r2 x y H Q) := by
  intro pins s σ H x y v u Q I rx ry h
  rcases h with h | h
  · exact h1 pins s σ H x y v u Q I rx ry h
  · exact h2 pins s σ H x y v u Q I rx ry h
end
end Vf

set_option maxRecDepth 100000
set_option maxHeartbeats 4000000
namespace Vf
open PySem PySem.Spec PyProof.Rows L2 SX
/-! ### match over texts -/
structure MC (X : Cx) (cs : List MatchCase) (t : V → TS) : Prop where
  run : ∀ (first : Bool) (pins : List (Addr × Obj)) (s : Shared) (σ : L2.St) (H : Hp) (D : Ends) (x : V) (v : Value), Inv X pins σ H s → RelV x v → t x D σ H → wpAny (model X.prog X.w) X.A (matchCases cs X.env v first) (SP X pins D) X.xe s
section
variable {X : Cx}
theorem mc_nil : MC X [] (fun _ => tNext) := ⟨fun _ pins s σ H D x v I _ h => by
  rw [arm_matchCases_nil]
  exact wpAny_pure ⟨σ, H, I, h⟩⟩
def tMv (s : Str) (tb : TS) (tr : V → TS) : V → TS := fun x D σ H => ∃ y : Str, x = .str y ∧ if decide (y = s) = true then tb D σ H else tr x D σ H
theorem mc_val {s : Str} {j : Nat} {p1 p2 : Pos} {body : List Stmt} {rest : List MatchCase} {tb : TS} {tr : V → TS} (hb : PSs X body tb) (hr : MC X rest tr) :
    MC X (⟨.MatchValue (.Constant (.str s) j p1) p2, none, body⟩ :: rest) (tMv s tb tr) := by
  refine ⟨fun first pins sh σ H D x v I rx h => ?_⟩
  obtain ⟨y, rfl, h⟩ := h
  rw [arm_matchCases_cons]
  refine wpAny_bind (wpAny_holding ?_)
  rw [arm_matchPattern_MatchValue]
  refine wpAny_bind (thn (pe_str.run pins sh σ H (fun z H1 => z = .str s ∧ H1 = H) I ⟨rfl, rfl⟩) fun u s1 ⟨z, H1, I1, rz, e1, e2⟩ => ?_)
  subst e1
  subst e2
  refine wpAny_bind (wpAny_standAt ?_)
  refine wpAny_bind (thn (op_eq pins s1 σ H1 (.str y) (.str s) v u (fun z H2 => z = .bl (decide (y = s)) ∧ H2 = H1) I1 rx rz ⟨rfl, by rw [show decide (V.str y = V.str s) = decide (y = s) from decide_eq_decide.mpr ⟨fun z => V.str.inj z, fun z => by rw [z]⟩]; exact ⟨rfl, rfl⟩⟩) fun b s2 ⟨z, H2, I2, rb, e1, e2⟩ => ?_)
  subst e1
  subst e2
  obtain rfl : b = Value.bool (decide (y = s)) := rb
  refine wpAny_bind (wpAny_truthy_bool ?_)
  by_cases e : y = s
  · rw [decide_eq_true e] at h ⊢
    rw [if_pos rfl] at h ⊢
    refine wpAny_pure ?_
    refine wpAny_bind (wpAny_holding ?_)
    first
      | (show wpAny _ _ (assignInOrder [] []) _ _ _; unfold assignInOrder)
      | skip
    refine wpAny_pure ?_
    refine wpAny_bind (wpAny_pure ?_)
    show wpAny _ _ (execs body X.env) _ _ _
    exact hb.run pins s2 σ H2 D I2 h
  · rw [decide_eq_false e] at h ⊢
    rw [if_neg Bool.false_ne_true] at h ⊢
    refine wpAny_pure ?_
    exact hr.run false pins s2 σ H2 D _ v I2 rx h
/-- case _ -/
theorem mc_any {p : Pos} {body : List Stmt} {rest : List MatchCase} {tb : TS} (hb : PSs X body tb) : MC X (⟨.MatchAs none none p, none, body⟩ :: rest) (fun _ => tb) := by
  refine ⟨fun first pins sh σ H D x v I rx h => ?_⟩
  rw [arm_matchCases_cons]
  refine wpAny_bind (wpAny_holding ?_)
  rw [arm_matchPattern_MatchAs]
  refine wpAny_pure ?_
  refine wpAny_bind (wpAny_holding ?_)
  first
    | (show wpAny _ _ (assignInOrder [] []) _ _ _; unfold assignInOrder)
    | skip
  refine wpAny_pure ?_
  refine wpAny_bind (wpAny_pure ?_)
  show wpAny _ _ (execs body X.env) _ _ _
  exact hb.run pins sh σ H D I h
/-- a match statement -/
def tMatch (te : TE) (ts : V → TS) : TS := fun D σ H => te σ H fun x H1 => ts x D σ H1
theorem ps_match {e : Expr} {cs : List MatchCase} {pos : Pos} {te : TE} {ts : V → TS} (he : PE X e te) (hc : MC X cs ts) : PS X (.Match e cs pos) (tMatch te ts) := by
  refine ⟨fun pins s σ H D I h => ?_⟩
  rw [arm_exec_Match]
  refine wpAny_bind (wpAny_standAt ?_)
  refine wpAny_bind (thn (he.run pins s σ H _ I h) fun v s1 ⟨x, H1, I1, rx, q⟩ => ?_)
  exact hc.run true pins s1 σ H1 D x v I1 rx q
end
end Vf

set_option maxRecDepth 100000
set_option maxHeartbeats 4000000
namespace Vf
open PySem PySem.Spec PyProof.Rows L2 SX
/-! ### a def called at one known place of the stack (its guards are known there) -/
def noE : XK := fun _ _ _ => False
def RunAt (P : Program) (w : World) (K : PySem.W.Frag) (mg : Str → Option Value) (base : Heap) (A : Around) (f : Addr) (fd : FuncData) (ps : List Str) (sp : Sp) : Prop :=
  ∀ (out : List Env) (s : Shared) (H : Hp) (g : Args) (us : List Value) (vs : List V) (Q : VK), Env0 P w K mg base A out s H →
    BindsTo s fd g (ps.zip us) → Vals vs us → sp vs H Q noE → codeAny (model P w) A (.call (.ref f) g) (CR C8.CX0 out P w H s Q noE) s
section
variable {P : Program} {w : World} {K : PySem.W.Frag} {mg : Str → Option Value} {base : Heap}
theorem keeps_of {A : Around} {out : List Env} {s : Shared} {H : Hp} (e : Env0 P w K mg base A out s H) {b : Addr} {o : Obj} (h : base.get? b = some o) : s.heap.get? b = some o := (e.bs b o h).1
theorem runAt_of {q : Str} {st : Stmt} {f : Addr} {fd : FuncData} {N ps : List Str} {k : Nat} {A : Around} {sp : Sp} (F : C8.Fun K x q st f fd)
    (S : FnScope N ps (C8.fnScope st)) (len : ∀ vs H Q E, sp vs H Q E → vs.length = ps.length) (hr : Room (k + 1) A)
    (hb : ∀ (c : Value) (out : List Env) (s : Shared) (H : Hp) (vs : List V) (Q : VK), sp vs H Q noE →
      ∃ t, PSs (cxOf C8.CX0 P w K mg base N q (C8.fnScope st) f c A out s H noE).nox (C8.fnBody st) t ∧ t { nx := fun _ h => Q .non h, rt := Q } (start N vs) H) :
    RunAt P w K mg base A f fd ps sp := by
  obtain ⟨oc, od, dV, kV, dc, pm, an, c, ct, sl, rfl, lk, hc⟩ := F.ex
  intro out s H g us vs Q e0 hbind r hsp
  have hn := len _ _ _ _ hsp
  have KX : K.In s.heap := e0.mod.kin.keeps fun _ _ z => keeps_of e0 z
  have lim := e0.mod.nolimit.keeps (h' := s.heap) fun _ _ z => keeps_of e0 z
  refine codeAny_call_function hr.depth (KX _ _ lk) rfl S.co S.gen rfl (PySem.W.codeRec_of KX hc) (hbind _ _ _ _ ?_)
  refine wpAny_newFunctionEnv_cells S.kind (fun y hy => ?_) fun env he s1 x1 => ?_
  · rcases S.par y.1 (List.of_mem_zip hy).1 with z | z
    · exact Or.inl z
    · exact Or.inr ⟨z, PySem.W.cellsFrom_some _ _ _ (Or.inl z)⟩
  · subst he
    refine ⟨lim.keeps x1.toInCall.keep, codeAny_func ?_⟩
    obtain ⟨t, ht, hq⟩ := hb c out s H vs Q hsp
    refine wpAny_mono (ht.nox.run [] s1 (start N vs) H _ (inv_start S hr.hd e0 hn r x1) hq) (fun fl s' hs => ?_) (fun _ _ hs => hs)
    rcases fl with u | _ | _ | _
    all_goals first
      | exact (by obtain ⟨v, σ', H', J, rv, z⟩ := hs; exact ⟨v, H', J.os, J.bare, J.base, J.hok, rv, z⟩)
      | exact (by obtain ⟨σ', H', J, z⟩ := hs; exact ⟨V.non, H', J.os, J.bare, J.base, J.hok, rfl, z⟩)
      | exact (by obtain ⟨_, _, _, z⟩ := hs; exact z.elim)
end
/-- a tracked script list, or one of the written part -/
def scrH (a : Addr) (o : Obj) (xs : List V) : Hp := fun b => if b = a then some (.frz o (.lst xs)) else none
section
variable {P : Program} {w : World} {K : PySem.W.Frag} {mg mb : Str → Option Value} {fa a : Addr} {fd : FuncData} {x : Str} {sp : Sp} {s : Shared} {ws : List Value} {ns : List Int}
def LawEnd (s : Shared) (r : Result) (z : Shared) : Prop := r = .ok (.ret (.bool true)) ∧ OldK s.heap z.heap ∧ z.os = s.os ∧ AllBare z.gens
theorem law_core (KX : K.In s.heap) (hn : s.heap.Ns mainGlobals mg) (hb : s.heap.Ns builtinsNs mb) (hbb : ∀ y : Str, y ≠ "__name__" → mb y = bootBuiltins y) (hl : s.heap.NoLimit) (hg : s.gens = #[])
    (ha : s.heap.get? a = some { cls := .type "list", data := .seq ws.toArray }) (F : ∀ b : Heap, K.In b → b.Ns mainGlobals mg → RunAt P w K mg b callerA fa fd [x] sp)
    (bind : ∀ (z : Shared) (u : Value), BindsTo z fd ⟨[u], []⟩ [(x, u)]) (H : Hp) (hO : Only H) (hS : sp [.ref a] H (fun v _ => v = .bl true) noE) (ok : HOk P w H s.heap)
    (hA : ∀ b, H b ≠ none → b = a) (hK : H a ≠ none → K.lookup a = none) : codeAny (model P w) callerA (.call (.ref fa) ⟨[.ref a], []⟩) (LawEnd s) s := by
  have at_a : ∀ {b : Addr} {u : HO}, H b = some u → b = a := fun {b u} z => hA b fun n => nomatch n.symm.trans z
  have dictN : ∀ {b : Addr} {o : Obj} {es : Array DictEntry} {ep : Nat}, s.heap.get? b = some o → o.data = .dict es ep → H b = none := fun {b o es ep} e d =>
    match q : H b with
    | none => rfl
    | some u => by
      cases at_a q
      cases ha.symm.trans e
      exact nomatch d
  have nsN : ∀ {b : Addr} {m : Str → Option Value}, s.heap.Ns b m → (hidT s.heap H).Ns b m := fun {b m} n => by
    obtain ⟨o, es, ep, e, d, r⟩ := n
    exact ⟨o, es, ep, hidT_get e (dictN e d), d, r⟩
  have kin : K.In (hidT s.heap H) := fun b o e => hidT_get (KX b o e) (match q : H b with
    | none => rfl
    | some u => by
      cases at_a q
      cases (hK fun n => nomatch n.symm.trans q).symm.trans e)
  have lim : (hidT s.heap H).NoLimit := by
    obtain ⟨mc, l1, l2⟩ := hl
    exact ⟨mc, nsN l1, l2⟩
  have e0 : Env0 P w K mg (hidT s.heap H) callerA [] s H := ⟨rfl, ⟨kin, nsN hn, ⟨mb, nsN hb, hbb⟩, lim⟩, fun _ _ e => of_hidT e, Nat.le_of_eq (hidT_size _ _), trivial, fun b z => absurd (show b ∈ ([] : List Addr) from z) List.not_mem_nil, ok, .of_eq hg⟩
  refine codeAny_mono (F _ kin (nsN hn) [] s H ⟨[.ref a], []⟩ [.ref a] [.ref a] _ e0 (bind s (.ref a)) (.cons rfl .nil) hS) fun r z h => ?_
  match r, h with
  | .error e, h => exact (show False from h).elim
  | .ok .next, h => exact (show False from h).elim
  | .ok .brk, h => exact (show False from h).elim
  | .ok .cont, h => exact (show False from h).elim
  | .ok (.ret u), h =>
    obtain ⟨v, H', os, bare, un, ok', rv, rfl⟩ := h
    cases (show u = Value.bool true from rv)
    refine ⟨rfl, OldK.of_keep fun b o e => ?_, os, bare⟩
    match q : H b with
    | none => exact un.keep b o e q (fun m => absurd (show b ∈ ([] : List Addr) from m) List.not_mem_nil) List.not_mem_nil
    | some u =>
      rcases hO b with n | ⟨ob, xs, n⟩
      · exact nomatch n.symm.trans q
      · have g1 := (ok b _ n).1
        have g2 := (ok' b _ (un.frzs b ob _ n)).1
        cases e.symm.trans g1
        exact g2
theorem law_callG (KX : K.In s.heap) (hn : s.heap.Ns mainGlobals mg) (hb : s.heap.Ns builtinsNs mb) (hbb : ∀ y : Str, y ≠ "__name__" → mb y = bootBuiltins y) (hl : s.heap.NoLimit) (hg : s.gens = #[])
    (ha : s.heap.get? a = some { cls := .type "list", data := .seq ws.toArray }) (hi : IntsAre ws ns) (hz : ns.length ≤ sizeLine) (F : ∀ b : Heap, K.In b → b.Ns mainGlobals mg → RunAt P w K mg b callerA fa fd [x] sp)
    (bind : ∀ (z : Shared) (u : Value), BindsTo z fd ⟨[u], []⟩ [(x, u)]) (hS : ∀ H : Hp, Only H → SqL K H a (ns.map V.int) → sp [.ref a] H (fun v _ => v = .bl true) noE) :
    codeAny (model P w) callerA (.call (.ref fa) ⟨[.ref a], []⟩) (LawEnd s) s := by
  have rv := vals_ints hi
  match hk : K.lookup a with
  | some o =>
    cases ha.symm.trans (KX a o hk)
    have so : Only (fun _ => none) := fun _ => .inl rfl
    exact law_core KX hn hb hbb hl hg ha F bind _ so (hS _ so (.inr ⟨_, ws.toArray, _, hk, rfl, rfl, rfl, by rw [List.size_toArray, hi.length]; exact hz, by simpa using rv⟩)) (fun _ u z => nomatch (show (none : Option HO) = some u from z)) (fun _ z => absurd rfl z) (fun z => absurd rfl z)
  | none =>
    have e1 : scrH a { cls := .type "list", data := .seq ws.toArray } (ns.map V.int) a = some (.frz { cls := .type "list", data := .seq ws.toArray } (.lst (ns.map V.int))) := if_pos rfl
    have e2 : ∀ {b : Addr}, b ≠ a → scrH a { cls := .type "list", data := .seq ws.toArray } (ns.map V.int) b = none := fun n => if_neg n
    have so : Only (scrH a { cls := .type "list", data := .seq ws.toArray } (ns.map V.int)) := fun b => by
      by_cases z : b = a
      · subst z; exact .inr ⟨_, _, e1⟩
      · exact .inl (e2 z)
    refine law_core KX hn hb hbb hl hg ha F bind _ so (hS _ so (.inl (.inr ⟨_, e1⟩))) (fun b u z => ?_) (fun b z => ?_) fun _ => hk
    · by_cases y : b = a
      · subst y
        cases e1.symm.trans z
        exact ⟨ha, by rw [List.length_map]; exact hz, ws, _, rv, ha⟩
      · exact nomatch (e2 y).symm.trans z
    · by_cases y : b = a
      · exact y
      · exact absurd (e2 y) z
end
section
variable {l : PySem.W.OpenLaw} {n : Nat} {q : Program} {loose : List Str} {XP : (Str → Option Value) → Heap → Prop} {YP : World → Heap → Prop} {d : DefRec} {K : Params → PySem.W.Frag} {sp : PySem.W.Frag → Sp} {x : Str}
theorem walk_ofG (hn : l.most = some n) (hz : n ≤ sizeLine) (hd : d.params.defaults = []) (hY : ∀ (w : World) (h : Heap), YP w h → (K w.params).In h)
    (F : ∀ (w : World) (mg : Str → Option Value) (fa : Addr) (h : Heap), (K w.params).In h → h.Ns mainGlobals mg → mg d.name = some (.ref fa) →
      ∃ fd : FuncData, (∀ (z : Shared) (u : Value), BindsTo z fd ⟨[u], []⟩ [(x, u)]) ∧ ∀ b : Heap, (K w.params).In b → b.Ns mainGlobals mg → RunAt l.prog w (K w.params) mg b callerA fa fd [x] (sp (K w.params)))
    (hS : ∀ (K : PySem.W.Frag) (H : Hp) (a : Addr) (ns : List Int), ns.length ≤ n → Only H → SqL K H a (ns.map V.int) → sp K [.ref a] H (fun v _ => v = .bl true) noE) :
    PySem.W.WalkO q loose XP YP l.row.toRowW d [] (fun f vs => PySem.call f vs) := by
  refine Att.attach_call hn hd fun w s0 s1 mg mb fa o pm c dc a vs ns G Y ho ht hc hm hobj hi hlen hg => ?_
  have KX := hY w _ Y
  obtain ⟨fd, hb, hF⟩ := F w mg fa _ KX G.T.g hm
  exact law_callG KX G.T.g G.T.b G.T.builtins G.T.nolimit hg hobj hi (Nat.le_trans hlen hz) hF hb fun H hO hL => hS _ H a ns hlen hO hL
end
/-! ### repr of data -/
def rRepr (K : PySem.W.Frag) : List V → Hp → VK → Prop := fun xs H Q => ∃ (a : Addr) (d : PyData), xs = [.ref a] ∧ Dp K H (.ref a) d ∧ d.showable = true ∧ d.hasDict = false ∧ d.depth ≤ 40 ∧ d.shown.length ≤ sizeLine ∧ Q (.str d.shown) H
theorem call_reprD {X : Cx} (hg : X.A.guards = some []) (hu : X.A.units + 64 < cLine) : CallR X (.builtin "repr") (rRepr X.K) := by
  intro pins s σ H xs us Q I r h
  obtain ⟨a, d, rfl, hd, hs, hn, hp, hl, q⟩ := h
  cases r with
  | @cons _ u _ _ ra rt =>
    cases rt
    obtain rfl : u = Value.ref a := ra
    obtain ⟨as, rd⟩ := Dp.reads I d _ _ hd rfl
    exact repr_of_reads' rd hs (fun z => absurd (hn.symm.trans z) (by decide)) hg (by omega) (fun _ _ e => e) (fun h' u tk k => ⟨.str d.shown, H, I.kept k, ⟨_, rfl⟩, q⟩) hl
end Vf

set_option maxRecDepth 100000
set_option maxHeartbeats 4000000
namespace Vf
open PySem PySem.Spec PyProof.Rows L2 SX
/-! ### an own exception as a value: made, its fields read, its class asked -/
/-- __class__ of an own exception, with or without a dict of its own -/
theorem cls_of_exc {prog : Program} {w : World} {A : Around} {E : Value → Shared → Prop} {s : Shared} {K : PySem.W.Frag} {e C : Addr} {oe : Obj} {od : Option Obj} {Q : Option Value → Shared → Prop} (T : ExcC K C)
    (X : K.In s.heap) (I : PySem.W.InstAt s.heap e oe C od) (q : Q (some (.ref C)) { s with toks := s.toks + 1 }) : wpAny (model prog w) A (getAttr? (.ref e) "__class__") Q E s := by
  have fnd : PySem.W.findObj K C od "__class__" = some (.bind (.builtin "getset_descriptor.__get__") (.builtin "object.__class__")) := by
    obtain ⟨cd, hc, _⟩ := PySem.W.any_some T.hd
    unfold PySem.W.findObj
    simp [hc, T.ha, T.hn, T.ht]
  have own : (Value.builtin "BaseException.__getattribute__" == Value.builtin "object.__getattribute__") = false := by decide +kernel
  obtain ⟨h0, g0, d0, t0, o0⟩ := s
  have j0 := I.type (M := model prog w)
  have j1 := PySem.W.looks_findIn (M := model prog w) X T.hg
  have j2 := PySem.W.looks_findIn (M := model prog w) X T.hk
  have j3 := PySem.W.looks_find (M := model prog w) X I fnd
  have sb : PySem.W.Looks (model prog w) h0 (isInstance (.ref e) (.type "BaseException")) true := j0.andThen (PySem.W.looks_subIn X T.hs)
  unfold getAttr? getAttrBy? getAttrBy
  iterate 1 refine wpAny_bind (wpAny_mkText ?_)
  refine wpAny_bind (wpAny_attempt (wpAny_holding ?_))
  refine wpAny_bind (j0.at (wpAny_bind (j1.at ?_)))
  refine (show wpAny _ _ (if (onTheHeap (Value.ref C) && (Value.builtin "BaseException.__getattribute__" == Value.builtin "object.__getattribute__")) = true then _ else _) _ _ _ from ?_)
  rw [own, Bool.and_false, if_neg Bool.false_ne_true]
  unfold getAttrByItsOwn hookBefore
  refine wpAny_bind ?_
  have hon : onTheHeap (Value.ref C) = true := rfl
  rw [if_pos hon]
  refine j2.at (wpAny_bind (wpAny_attempt (wpAny_holding ?_)))
  unfold callGetattribute
  have hno : ¬ (false && onTheHeap (Value.builtin "BaseException.__getattribute__")) = true := Bool.false_ne_true
  rw [if_neg hno]
  unfold boundAndCalled
  rw [F.excAttr_ValueError.ga.bind (.ref e)]
  refine wpAny_bind (wpAny_pure ?_)
  refine (show wpAny _ _ (call (.builtin "BaseException.__getattribute__") [.ref e, .str "__class__" t0]) _ _ _ from ?_)
  refine (wpAny_call (codeAny_call_builtin F.excAttr_ValueError.ga.plain F.entry_bexc_ga ?_))
  refine @PySem.W.check_slot (model prog w) _ _ ⟨h0, g0, d0, t0 + 1, o0⟩ "BaseException.__getattribute__" "BaseException" "__getattribute__"
    (.ref e) [.str "__class__" t0] [] _ (by decide +kernel) (by decide +kernel) sb (F.args_bexc_ga (.ref e) (.str "__class__" t0)) ?_
  unfold Builtin.«object.__getattribute__»
  refine wpAny_bind (wpAny_of_eq (a := ((Value.ref e : Value), [Value.str "__class__" t0])) (by first | rfl | (simp only [slotArgs]; rfl)) ?_)
  refine wpAny_bind (wpAny_pure (wpAny_bind (j0.at (wpAny_bind (j3.at ?_)))))
  refine (show wpAny _ _ (holding [Value.builtin "object.__class__"] (call (.builtin "getset_descriptor.__get__") [.builtin "object.__class__", .ref e, .ref C]) >>= ret) _ _ _ from ?_)
  refine wpAny_bind (wpAny_holding (wpAny_call (PySem.W.class_get (s := ⟨h0, g0, d0, t0 + 1, o0⟩) X I T.hm ?_)))
  refine wpAny_pure ?_
  refine (show wpAny _ _ (handedOut (.ref C)) _ _ _ from ?_)
  rw [PySem.W.handedOut_of (v := .ref C) rfl]
  first
    | exact wpAny_pure (wpAny_pure q)
    | exact wpAny_pure q
theorem kitx_exo {K : PySem.W.Frag} {e C : Addr} {oe : Obj} {od : Option Obj} (T : ExcC K C) : PySem.W.KitX K (.ref e) (.ref C) (fun h => PySem.W.InstAt h e oe C od) := by
  have Z : PySem.W.KitX K (.ref e) (.ref C) (fun h => PySem.W.InstAt h e oe C none) := PySem.W.handS_kitx_exc T.hg T.hk T.hs T.hd T.ha T.hn T.ht T.hm
  obtain ⟨cd, hc, _⟩ := PySem.W.any_some T.hd
  exact { ty := fun _ _ _ I => I.type
          it := fun M h X I A Q E s k q => by
            unfold PySem.W.clsIn at hc
            split at hc
            · rename_i c1 d1 cd1 sl1 ho
              unfold isType loadHead
              exact wpAny_bind (wpAny_loadPart (k _ _ (X _ _ ho)) (wpAny_pure q))
            · cases hc
          ne := fun h tp dd its n sl X htp => Bool.eq_false_iff.mpr fun z => by
            have ez : C = tp := Value.ref.inj (beq_iff_eq.mp z)
            subst ez
            unfold PySem.W.clsIn at hc
            split at hc
            · rename_i c1 d1 cd1 sl1 ho
              exact nomatch (X _ _ ho).symm.trans htp
            · cases hc
          ca := fun X I k => cls_of_exc T X I k }
/-- an own exception of the class at C, with these fields, at a (n: none as yet) -/
def ExAt (H : Hp) (a C : Addr) (fs : List (Str × V)) : Prop := (fs = [] ∧ H a = some (exo a C none)) ∨ ∃ d, H a = some (exo a C (some d)) ∧ H d = some (exd d fs)
theorem inst_of {P : Program} {w : World} {H : Hp} {h : Heap} {a C : Addr} {fs : List (Str × V)} (ok : HOk P w H h) (e : ExAt H a C fs) : ∃ (oe : Obj) (od : Option Obj), PySem.W.InstAt h a oe C od := by
  rcases e with ⟨_, e⟩ | ⟨d, e1, e2⟩
  · obtain ⟨t, g⟩ := exo_at ok e
    exact ⟨_, none, ⟨g, rfl, rfl, trivial⟩⟩
  · obtain ⟨t, g⟩ := exo_at ok e1
    obtain ⟨mA, ⟨o, es, ep, g2, _⟩, _⟩ := exd_at ok e2
    exact ⟨_, some o, ⟨g, rfl, rfl, g2⟩⟩
def rIsX (K : PySem.W.Frag) : List V → Hp → VK → Prop := fun xs H Q => ∃ (a C : Addr) (fs : List (Str × V)) (c : V) (u : Value) (b : Bool), xs = [.ref a, c] ∧ ExAt H a C fs ∧ ExcC K C ∧ ClsV c u ∧ PySem.W.kitOne K (.ref C) u = some b ∧ Q (.bl b) H
theorem call_isX {X : Cx} : CallR X (.builtin "isinstance") (rIsX X.K) := by
  intro pins s σ H xs us Q I r h
  obtain ⟨a, C, fs, c, u, b, rfl, ex, T, k, e, q⟩ := h
  obtain ⟨u1, u2, rfl, r1, r2⟩ := vals2 r
  cases k.eq r2
  obtain rfl : u1 = Value.ref a := r1
  obtain ⟨oe, od, J⟩ := inst_of I.hok ex
  exact PySem.W.kia_one (kitx_exo T) I.kIn J e (fun z => nomatch z) fun tk => ⟨.bl b, H, I.tok tk, rfl, q⟩
/-- e.f of such an exception -/
def tXa (K : PySem.W.Frag) (f : Str) (te : TE) : TE := fun σ H Q => te σ H fun x H1 => ∃ (a C : Addr) (fs : List (Str × V)) (v : V), x = .ref a ∧ XfC K C ∧ PySem.W.findIn K (.ref C) f = some none ∧ ExAt H1 a C fs ∧ fs.lookup f = some v ∧ Q v H1
theorem pe_xa {X : Cx} {e : Expr} {te : TE} {pos : Pos} {f : Str} (he : PE X e te) (hb : attributeBase e f X.env (eval e X.env) = eval e X.env := by rfl) : PE X (.Attribute e f pos) (tXa X.K f te) := by
  refine ⟨fun pins s σ H Q I h => attr_of hb (thn (he.run pins s σ H _ I h) fun u s1 ⟨x, H1, I1, rx, a, C, fs, v, ex, T, hno, ea, l, q⟩ => ?_)⟩
  subst ex
  obtain rfl : u = Value.ref a := rx
  rcases ea with ⟨z, _⟩ | ⟨d, e1, e2⟩
  · subst z; cases l
  obtain ⟨t, g⟩ := exo_at I1.hok e1
  obtain ⟨mA, hns, hr⟩ := exd_at I1.hok e2
  obtain ⟨od, ho, hl⟩ := lookIn_ns hns
  obtain ⟨y, hy, ry⟩ := RelO.some_of (v := v) (o := mA f) (by rw [← l]; exact hr f)
  exact HandSPX.exc_get I1.kIn ⟨g, rfl, rfl, ho⟩ T.ga T.gg T.exC (PySem.W.findObj_own T.hdC hno rfl (by rw [hl, hy])) (handed_of ry) ⟨v, H1, I1.tok _, ry, q⟩
/-- C(e, ..), C's own __init__ keeping sp: the new exception stays -/
def tMkx (R : List V → Hp → VK → Prop) (ta : TA) : TE := fun σ H Q => ta σ H fun vs H1 => R vs H1 Q
theorem pe_mkx {X : Cx} {R : List V → Hp → VK → Prop} {x : Str} {C fI : Addr} {k : Nat} {fd : FuncData} {ps : List Str} {sp : Sp} {e : Expr} {es : List Expr} {ta : TA} {p pos : Pos} (T : OexC X.K C) (iC : PySem.W.findIn X.K (.ref C) "__init__" = some (some (.ref fI)))
    (tI : PySem.W.typeIn X.K (.ref fI) = some (.type "function")) (F1 : FnOk X.prog X.w X.K X.mg X.base C8.CX0 k fI fd ps sp) (hr : Room (k + 1) X.A) (hb : Binds X.K fd ps []) (hg : Gl X x) (hm : X.mg x = some (.ref C)) (ha : PA X (e :: es) ta)
    (hR : ∀ vs H1 Q, R vs H1 Q → vs.length ≤ 1000 ∧ ∀ a, H1 a = none → sp (.ref a :: vs) (upd H1 a (exo a C none)) (fun v H2 => v = .non ∧ Q (.ref a) H2) noE)
    (hdb : (x == ("__debug__" : Str)) = false := by decide) (he : starEach (e :: es) X.env = (false, eval e X.env) :: starEach es X.env := by rfl) (hpl : (backTo pos (starEach es X.env)).any (·.1) = false := by rfl) :
    PE X (.Call (.Name x p) (e :: es) [] pos) (tMkx R ta) := by
  refine ⟨fun pins s σ H Q I h => ?_⟩
  obtain ⟨nm, q, N, bs, bm, sn, sub, ab, col, dd, k0, k1, k2, k3, k5, hC, hbm⟩ := T.cls
  refine wpAny_Call_Name_kw (ld_glob I hg hm ?_ hdb)
  refine PySem.W.callWith_K (h₀ := X.base) I.ok.mod.kin T.kC (thn (ha.run pos pins s σ H _ I h) fun us s1 ⟨vs, H1, I1, r1, q0⟩ => ⟨I1.kIn, ?_⟩) he hpl
  obtain ⟨hz, q1⟩ := hR _ _ _ q0
  refine (show wpAny _ _ (call (.ref C) us) _ _ _ from ?_)
  obtain ⟨hp, g, dr, tk, os⟩ := s1
  have top : hp.objs.size ≤ hp.objs.size + 1 := Nat.le_succ _
  have hn : H1 (hp.objs.size + 1) = none := I1.hok.fresh top
  have grow : ∀ b o, hp.get? b = some o → ((hp.push (PySem.W.kdv_tup us)).push (PySem.HandSPX.excO C hp.objs.size)).get? b = some o := fun b o z => Heap.get?_push_of_some _ (Heap.get?_push_of_some _ z)
  have I2 := I1.laid (t' := tk) (a := hp.objs.size + 1) (o := exo (hp.objs.size + 1) C none) (h' := (hp.push (PySem.W.kdv_tup us)).push (PySem.HandSPX.excO C hp.objs.size)) grow top (exo_ok (t1 := hp.objs.size) (by heap_get))
  have r2 : Vals (V.ref (hp.objs.size + 1) :: vs) (Value.ref (hp.objs.size + 1) :: us) := .cons rfl r1
  have hq := q1 (hp.objs.size + 1) hn
  have hl : (Value.ref (hp.objs.size + 1) :: us).length = ps.length := r2.length.symm.trans (F1.len _ _ _ _ hq)
  have hus : us.length ≤ sizeLine := Nat.le_trans (Nat.le_of_eq (Paired.length r1).symm) (Nat.le_trans hz (by rw [sizeLine_eq]; decide))
  have bd := hb ⟨(hp.push (PySem.W.kdv_tup us)).push (PySem.HandSPX.excO C hp.objs.size), g, dr, tk, os⟩ (Value.ref (hp.objs.size + 1) :: us) I2.kIn (by rw [List.append_nil]; exact hl)
  rw [List.append_nil] at bd
  refine wpAny_call (PySem.HandSPX.call_own F.excBase_ValueError (fun Y => PySem.HandSPX.refsVE_contains Y bm hbm) (I1.kIn _ _ hC) (PySem.W.looks_findIn I1.kIn iC) (fun self => PySem.W.bind_fn I1.kIn self tI) hus ?_)
  refine codeAny_mono (F1.run _ X.stack _ _ ⟨Value.ref (hp.objs.size + 1) :: us, []⟩ (Value.ref (hp.objs.size + 1) :: us) _ _ noE (hr.make C us []) (I2.env0.make C us []) bd r2 hq) fun r s' z => ?_
  match r, z with
  | .error _, z => exact (show False from z).elim
  | .ok .next, z => exact (show False from z).elim
  | .ok .brk, z => exact (show False from z).elim
  | .ok .cont, z => exact (show False from z).elim
  | .ok (.ret u), z =>
    obtain ⟨v, H2, I3, rv, ev, q2⟩ := I2.after z
    subst ev
    exact ⟨rv, .ref (hp.objs.size + 1), H2, I3, rfl, q2⟩
/-- C(), a class without own __init__ -/
theorem pe_mkx0 {X : Cx} {C : Addr} {x : Str} {p pos : Pos} (T : OexC X.K C) (q : PySem.W.excIn X.K C [.type "ValueError", .type "Exception", .type "BaseException", .type "object"] "ValueError.__new__" = true) (gC : X.mg x = some (.ref C)) (hg : Gl X x)
    (hdb : (x == ("__debug__" : Str)) = false := by decide) : PE X (.Call (.Name x p) [] [] pos) (fun σ H Q => ∀ a, H a = none → Q (.ref a) (upd H a (exo a C none))) := by
  refine ⟨fun pins s σ H Q I h => ?_⟩
  refine wpAny_Call_Name_kw (ld_glob I hg gC ?_ hdb)
  refine PySem.W.callWith_K0 I.kIn T.kC ?_
  obtain ⟨bm, N, nm, qn, bs, hdct, sn, sub, ab, col, dd, k0, k1, k2, k3, k5, mN, hC, hN, hni, OT⟩ := exc_obj I.kIn q
  refine wpAny_call_exc_subT F.excBase_ValueError OT hC hN hni (fun h' a hm => ?_) (Nat.zero_le _)
  have hn : H a = none := I.hok.gone hm.new
  obtain ⟨t, ht, _, _⟩ := hm.there
  exact ⟨.ref a, upd H a (exo a C none), I.laidN hm.keeps hm.new hn (exo_ok ht), rfl, h a hn⟩
end Vf

set_option maxRecDepth 100000
set_option maxHeartbeats 4000000
namespace Vf
open PySem PySem.Spec PyProof.Rows L2 SX LamX
/-! ### a def whose code object is told; lambdas handed on -/
structure FunC (K : PySem.W.Frag) (mg : Str → Option Value) (x : Str) (st : Stmt) (f : Addr) (fd : FuncData) (c : Addr) : Prop where
  ex : ∃ (oc : Value) (od : Option Addr) (dV kV doc pm : Value) (an : Option Addr) (ct : Value) (osl : Array (Option Value)),
    fd = PySem.W.fnOf x x (C8.fnArgs st) (C8.fnBody st) (C8.fnScope st) dV kV doc pm an (.ref c) ct ∧ K.lookup f = some ⟨oc, od, .func fd, osl⟩ ∧ PySem.W.codeIn K (.ref c) x = true
  mgf : mg x = some (.ref f)
  kp : PySem.W.keepIn K (.ref f) = true
section
variable {P : Program} {w : World} {K : PySem.W.Frag} {mg : Str → Option Value} {base : Heap}
theorem cal0c {x : Str} {st : Stmt} {f c : Addr} {fd : FuncData} {N ps : List Str} {k : Nat} {sp : Sp} (F : FunC K mg x st f fd c) (b : Binds K fd ps []) (S : FnScope N ps (C8.fnScope st)) (len : ∀ vs H Q E, sp vs H Q E → vs.length = ps.length)
    (hb : ∀ (A : Around) (outer : List Env) (s : Shared) (H : Hp) (vs : List V) (Q : VK) (E : XK), Room k (A.deeper (envOfC x (C8.fnScope st) s.heap.objs.size f (.ref c))) → sp vs H Q E →
      ∃ t, PSs (cxOf C8.CX0 P w K mg base N x (C8.fnScope st) f (.ref c) A outer s H E).nox (C8.fnBody st) t ∧ t { nx := fun _ h => Q .non h, rt := Q } (L2.start N vs) H) : C8.Cal P w K mg base (k + 1) x sp [] := by
  obtain ⟨oc, od, dV, kV, dc, pm, an, ct, sl, rfl, lk, hc⟩ := F.ex
  refine ⟨f, _, ps, [], fn_of lk hc S len fun A outer s H vs Q E hr h => ?_, F.mgf, F.kp, b, .nil⟩
  obtain ⟨t, h1, q⟩ := hb A outer s H vs Q E hr h
  exact ⟨t, h1.nox, q⟩
end
/-! ### repr of scalars -/
def reprV : V → Str
  | .non => "None"
  | .bl b => if b then "True" else "False"
  | .int i => toString i
  | .str x => reprText x
  | _ => ""
def ScR (v : V) : Prop := v = .non ∨ (∃ b, v = .bl b) ∨ (∃ i : Int, v = .int i ∧ i.natAbs.log2 < 1920) ∨ ∃ x : Str, v = .str x ∧ (reprText x).length ≤ sizeLine
theorem call_reprS {X : Cx} : CallR X (.builtin "repr") (fun xs H Q => ∃ v, xs = [v] ∧ ScR v ∧ Q (.str (reprV v)) H) := by
  intro pins s σ H xs us Q I r h
  obtain ⟨v, rfl, hv, q⟩ := h
  rcases hv with rfl | ⟨b, rfl⟩ | ⟨i, rfl, hz⟩ | ⟨x, rfl, hz⟩
  · obtain ⟨u, rfl, ru⟩ := vals1 r
    cases ru
    exact PySem.P.repr_of_none ⟨.str _, H, I.tok _, ⟨_, rfl⟩, q⟩
  · obtain ⟨u, rfl, ru⟩ := vals1 r
    cases ru
    exact PySem.P.repr_of_bool ⟨.str _, H, I.tok _, ⟨_, rfl⟩, q⟩
  · obtain ⟨u, rfl, t, rfl⟩ := vals1 r
    exact PySem.P.repr_of_int hz ⟨.str _, H, I.tok _, ⟨_, rfl⟩, q⟩
  · obtain ⟨u, rfl, t, rfl⟩ := vals1 r
    exact PySem.P.repr_of_str ⟨.str _, H, I.tok _, ⟨_, rfl⟩, q⟩ hz
/-! ### isinstance of a caught error that has a dict of its own -/
def rIsE2 (K : PySem.W.Frag) (cls : Value) (d : Option Addr) (a : Addr) : List V → Hp → VK → Prop := fun xs H Q => ∃ (D dd : Addr) (fs : List (Str × V)) (c : V) (cv : Value) (b : Bool), cls = .ref D ∧ d = some dd ∧ H dd = some (.xd fs) ∧ xs = [.ref a, c] ∧ ExcC K D ∧ (∀ u, RelV c u → u = cv) ∧ PySem.W.kitOne K (.ref D) cv = some b ∧ Q (.bl b) H
theorem call_isE2 {X : Cx} {a : Addr} {cls : Value} {d : Option Addr} {oe : Obj} {pn : List (Addr × Obj)} (hz : Zc cls d oe) (hf : ∃ vs, oe.data = .fields vs) : CallR (X.suite a ((a, oe) :: pn)) (.builtin "isinstance") (rIsE2 X.K cls d a) := by
  intro pins s σ H xs us Q I r h
  obtain ⟨D, dd, fs, c, cv, b, rfl, rfl, hd, rfl, C, hcv, e, q⟩ := h
  obtain ⟨u1, u2, rfl, r1, r2⟩ := vals2 r
  have ec := hcv _ r2
  subst ec
  obtain rfl : u1 = Value.ref a := r1
  obtain ⟨hget, _⟩ := I.pin (a, oe) (List.mem_append.mpr (.inl List.mem_cons_self))
  obtain ⟨vs, hv⟩ := hf
  have hx : ObjOk X.prog X.w H s.heap dd (.xd fs) := I.hok dd _ hd
  obtain ⟨mA, hns, _⟩ := hx
  obtain ⟨od, ho, _⟩ := lookIn_ns hns
  have J : PySem.W.InstAt s.heap a oe D (some od) := ⟨hget, hz.1, by unfold PySem.W.notCls; rw [hv] <;> rfl, by rw [hz.2]; exact ho⟩
  exact PySem.W.kia_one (kitx_exo C) I.kIn J e (fun z => nomatch z) fun tk => ⟨.bl b, H, I.tok tk, rfl, q⟩
theorem pe_fldK {X : Cx} {K : PySem.W.Frag} {e : Expr} {f : Str} {pos : Pos} {ta : TE} (hK : X.K = K) (he : PE X e ta) (hb : attributeBase e f X.env (eval e X.env) = eval e X.env) : PE X (.Attribute e f pos) (tFld K ta f) := by
  subst hK
  exact pe_fld he hb
def tKIx (K : PySem.W.Frag) (w : World) (td ty : TE) : TE := fun σ H Q => td σ H fun x H1 => ∃ d f, x = .ref d ∧ KD K w d f ∧ ty σ H1 fun y H2 => ∃ k v, y = .str k ∧ f k = some v ∧ Q v H2
/-- d[k], d a dict of the written part -/
theorem pe_kix {X : Cx} {o i : Expr} {pos : Pos} {td ty : TE} {K : PySem.W.Frag} {w : World} (hK : X.K = K) (hw : X.w = w) (ho : PE X o td) (hi : PE X i ty) (hs : NoSl i) : PE X (.Subscript o i pos) (tKIx K w td ty) := by
  subst hK hw
  refine ⟨fun pins s σ H Q I h => ?_⟩
  refine subD_of PySem.F.slot_dict_getitem.lookup hs (thn (ho.run pins s σ H _ I h) fun u s1 ⟨x, H1, I1, rx, d, g, ex, ⟨es, n, hl, hk, low, hg⟩, q1⟩ => thn (hi.run pins s1 σ H1 _ I1 q1) fun iv s2 ⟨y, H2, I2, ry, k, v, ey, ev, q2⟩ => ?_)
  subst ex
  subst ey
  obtain rfl : u = Value.ref d := rx
  obtain ⟨t, rfl⟩ := ry
  have hm := PySem.W.mapOf_K (prog := X.prog) (w := X.w) I2.kIn hl hk
  obtain ⟨z, hz, rz⟩ := RelO.some_of (v := v) (o := findBy Value.isStrOf es k) (by rw [← ev]; exact hg k)
  exact ⟨hm.typeIs, wpAny_getItem_of (strKind_is X.prog X.w k t) hm hz ⟨v, H2, I2.tok _, rz, q2⟩⟩
theorem pe_cls {X : Cx} {n : Str} {C : Addr} {p : Pos} (g : X.mg n = some (.ref C)) (hg : Gl X n) (hd : (n == ("__debug__" : Str)) = false := by decide) : PE X (.Name n p) (tC (.ref C)) := C8.pe_gc hg ⟨_, g, rfl⟩ hd
/-- what the two error classes say of one another -/
structure XF (K : PySem.W.Frag) (CB CN CW : Addr) : Prop where
  bb : PySem.W.exmOne K (.ref CB) (.ref CB) = some true
  nb : PySem.W.exmOne K (.ref CN) (.ref CB) = some false
  nn : PySem.W.exmOne K (.ref CN) (.ref CN) = some true
  bn : PySem.W.exmOne K (.ref CB) (.ref CN) = some false
  kb : PySem.W.kitOne K (.ref CB) (.ref CW) = some true
  kn : PySem.W.kitOne K (.ref CN) (.ref CW) = some true
  eb : ExcC K CB
  en : ExcC K CN
end Vf

set_option maxRecDepth 100000
set_option maxHeartbeats 4000000
namespace Vf
open PySem PySem.Spec PyProof.Rows L2 SX
def kd_MEANINGS (z : Str) : Option V := if z = "\"" then some (.str "\"") else if z = "\\" then some (.str "\\") else if z = "n" then some (.str "\n") else none
def kd_ESCAPES (z : Str) : Option V := if z = "\"" then some (.str "\\\"") else if z = "\\" then some (.str "\\\\") else if z = "\n" then some (.str "\\n") else none
def topS (i : Nat) : Stmt := PySem.Challenge.pw_textworkshop_k34_texts_of_line_tests.main.body.getD i (.Pass ⟨0, 0, 0, 0⟩)
abbrev s_isText : Stmt := topS 8
def N_isText : List Str := ["value", "sign"]
theorem sc_isText : FnScope N_isText ["value"] (C8.fnScope s_isText) := C8.fnScope_by (by decide +kernel)
abbrev s_isPatch : Stmt := topS 9
def N_isPatch : List Str := ["value"]
theorem sc_isPatch : FnScope N_isPatch ["value"] (C8.fnScope s_isPatch) := C8.fnScope_by (by decide +kernel)
abbrev s_isWhole : Stmt := topS 10
def N_isWhole : List Str := ["value"]
theorem sc_isWhole : FnScope N_isWhole ["value"] (C8.fnScope s_isWhole) := C8.fnScope_by (by decide +kernel)
abbrev s_LineTest_init : Stmt := (C8.clsBody (topS 16)).getD 0 (.Pass ⟨0, 0, 0, 0⟩)
def N_LineTest_init : List Str := ["self", "word", "argument", "parts", "negated"]
theorem sc_LineTest_init : FnScope N_LineTest_init ["self", "word", "argument", "parts", "negated"] (C8.fnScope s_LineTest_init) := C8.fnScope_by (by decide +kernel)
abbrev s_LineTest_eq : Stmt := (C8.clsBody (topS 16)).getD 1 (.Pass ⟨0, 0, 0, 0⟩)
def N_LineTest_eq : List Str := ["self", "other"]
theorem sc_LineTest_eq : FnScope N_LineTest_eq ["self", "other"] (C8.fnScope s_LineTest_eq) := C8.fnScope_by (by decide +kernel)
abbrev s_plainTest : Stmt := topS 19
def N_plainTest : List Str := ["word", "argument"]
theorem sc_plainTest : FnScope N_plainTest ["word", "argument"] (C8.fnScope s_plainTest) := C8.fnScope_by (by decide +kernel)
abbrev s_rangeTest : Stmt := topS 20
def N_rangeTest : List Str := ["first", "second"]
theorem sc_rangeTest : FnScope N_rangeTest ["first", "second"] (C8.fnScope s_rangeTest) := C8.fnScope_by (by decide +kernel)
abbrev s_otherTest : Stmt := topS 21
def N_otherTest : List Str := ["test"]
theorem sc_otherTest : FnScope N_otherTest ["test"] (C8.fnScope s_otherTest) := C8.fnScope_by (by decide +kernel)
abbrev s_isPlain : Stmt := topS 22
def N_isPlain : List Str := ["value"]
theorem sc_isPlain : FnScope N_isPlain ["value"] (C8.fnScope s_isPlain) := C8.fnScope_by (by decide +kernel)
abbrev s_isLineWord : Stmt := topS 23
def N_isLineWord : List Str := ["value"]
theorem sc_isLineWord : FnScope N_isLineWord ["value"] (C8.fnScope s_isLineWord) := C8.fnScope_by (by decide +kernel)
abbrev s_isWithin : Stmt := topS 24
def N_isWithin : List Str := ["value", "bounds"]
theorem sc_isWithin : FnScope N_isWithin ["value", "bounds"] (C8.fnScope s_isWithin) := C8.fnScope_by (by decide +kernel)
abbrev s_lineWords : Stmt := topS 31
def N_lineWords : List Str := ["line", "words", "at", "kind", "value", "behind"]
theorem sc_lineWords : FnScope N_lineWords ["line"] (C8.fnScope s_lineWords) := C8.fnScope_by (by decide +kernel)
abbrev s_wordAt : Stmt := topS 32
def N_wordAt : List Str := ["line", "at", "sign", "behind"]
theorem sc_wordAt : FnScope N_wordAt ["line", "at"] (C8.fnScope s_wordAt) := C8.fnScope_by (by decide +kernel)
abbrev s_runEnd : Stmt := topS 33
def N_runEnd : List Str := ["line", "at", "signs"]
theorem sc_runEnd : FnScope N_runEnd ["line", "at", "signs"] (C8.fnScope s_runEnd) := C8.fnScope_by (by decide +kernel)
abbrev s_numberAt : Stmt := topS 34
def N_numberAt : List Str := ["line", "at", "behind"]
theorem sc_numberAt : FnScope N_numberAt ["line", "at"] (C8.fnScope s_numberAt) := C8.fnScope_by (by decide +kernel)
abbrev s_quotedAt : Stmt := topS 35
def N_quotedAt : List Str := ["line", "at", "signs", "place", "sign"]
theorem sc_quotedAt : FnScope N_quotedAt ["line", "at"] (C8.fnScope s_quotedAt) := C8.fnScope_by (by decide +kernel)
abbrev s_quotedText : Stmt := topS 36
def N_quotedText : List Str := ["word", "sign"]
theorem sc_quotedText : FnScope N_quotedText ["word"] (C8.fnScope s_quotedText) := C8.fnScope_by (by decide +kernel)
abbrev s_WordReader_init : Stmt := (C8.clsBody (topS 38)).getD 0 (.Pass ⟨0, 0, 0, 0⟩)
def N_WordReader_init : List Str := ["self", "line", "number"]
theorem sc_WordReader_init : FnScope N_WordReader_init ["self", "line", "number"] (C8.fnScope s_WordReader_init) := C8.fnScope_by (by decide +kernel)
abbrev s_WordReader_coming : Stmt := (C8.clsBody (topS 38)).getD 1 (.Pass ⟨0, 0, 0, 0⟩)
def N_WordReader_coming : List Str := ["self"]
theorem sc_WordReader_coming : FnScope N_WordReader_coming ["self"] (C8.fnScope s_WordReader_coming) := C8.fnScope_by (by decide +kernel)
abbrev s_WordReader_skipped : Stmt := (C8.clsBody (topS 38)).getD 2 (.Pass ⟨0, 0, 0, 0⟩)
def N_WordReader_skipped : List Str := ["self", "word"]
theorem sc_WordReader_skipped : FnScope N_WordReader_skipped ["self", "word"] (C8.fnScope s_WordReader_skipped) := C8.fnScope_by (by decide +kernel)
abbrev s_WordReader_chosen : Stmt := (C8.clsBody (topS 38)).getD 3 (.Pass ⟨0, 0, 0, 0⟩)
def N_WordReader_chosen : List Str := ["self", "words", "word"]
theorem sc_WordReader_chosen : FnScope N_WordReader_chosen ["self", "words"] (C8.fnScope s_WordReader_chosen) := C8.fnScope_by (by decide +kernel)
abbrev s_WordReader_quoted : Stmt := (C8.clsBody (topS 38)).getD 4 (.Pass ⟨0, 0, 0, 0⟩)
def N_WordReader_quoted : List Str := ["self"]
theorem sc_WordReader_quoted : FnScope N_WordReader_quoted ["self"] (C8.fnScope s_WordReader_quoted) := C8.fnScope_by (by decide +kernel)
abbrev s_WordReader_whole : Stmt := (C8.clsBody (topS 38)).getD 5 (.Pass ⟨0, 0, 0, 0⟩)
def N_WordReader_whole : List Str := ["self"]
theorem sc_WordReader_whole : FnScope N_WordReader_whole ["self"] (C8.fnScope s_WordReader_whole) := C8.fnScope_by (by decide +kernel)
abbrev s_WordReader_finish : Stmt := (C8.clsBody (topS 38)).getD 6 (.Pass ⟨0, 0, 0, 0⟩)
def N_WordReader_finish : List Str := ["self"]
theorem sc_WordReader_finish : FnScope N_WordReader_finish ["self"] (C8.fnScope s_WordReader_finish) := C8.fnScope_by (by decide +kernel)
abbrev s_WordReader_taken : Stmt := (C8.clsBody (topS 38)).getD 7 (.Pass ⟨0, 0, 0, 0⟩)
def N_WordReader_taken : List Str := ["self", "kind"]
theorem sc_WordReader_taken : FnScope N_WordReader_taken ["self", "kind"] (C8.fnScope s_WordReader_taken) := C8.fnScope_by (by decide +kernel)
abbrev s_WordReader_refuse : Stmt := (C8.clsBody (topS 38)).getD 8 (.Pass ⟨0, 0, 0, 0⟩)
def N_WordReader_refuse : List Str := ["self", "kind", "found", "value", "column"]
theorem sc_WordReader_refuse : FnScope N_WordReader_refuse ["self", "kind"] (C8.fnScope s_WordReader_refuse) := C8.fnScope_by (by decide +kernel)
abbrev s_readLinetest : Stmt := topS 40
def N_readLinetest : List Str := ["line", "words", "form"]
theorem sc_readLinetest : FnScope N_readLinetest ["line"] (C8.fnScope s_readLinetest) := C8.fnScope_by (by decide +kernel)
abbrev s_linetestText : Stmt := topS 41
def N_linetestText : List Str := ["test", "ahead"]
theorem sc_linetestText : FnScope N_linetestText ["test"] (C8.fnScope s_linetestText) := C8.fnScope_by (by decide +kernel)
abbrev s_linetestForm : Stmt := topS 42
def N_linetestForm : List Str := ["words", "negated", "first"]
theorem sc_linetestForm : FnScope N_linetestForm ["words"] (C8.fnScope s_linetestForm) := C8.fnScope_by (by decide +kernel)
abbrev s_plainForm : Stmt := topS 43
def N_plainForm : List Str := ["words", "word"]
theorem sc_plainForm : FnScope N_plainForm ["words"] (C8.fnScope s_plainForm) := C8.fnScope_by (by decide +kernel)
abbrev s_madeLinetest : Stmt := topS 44
def N_madeLinetest : List Str := ["form", "negated", "parts", "tests", "test", "word", "argument"]
theorem sc_madeLinetest : FnScope N_madeLinetest ["form"] (C8.fnScope s_madeLinetest) := C8.fnScope_by (by decide +kernel)
abbrev s_pen : Stmt := topS 46
def N_pen : List Str := ["_law_script", "_law_fold", "_law_cell"]
theorem sc_pen : FnScope N_pen ["_law_script"] (C8.fnScope s_pen) := C8.fnScope_by (by decide +kernel)
abbrev s_draw : Stmt := topS 47
def N_draw : List Str := ["_law_pen_here", "_law_many", "_law_cell", "_law_digit", "_law_mixed"]
theorem sc_draw : FnScope N_draw ["_law_pen_here", "_law_many"] (C8.fnScope s_draw) := C8.fnScope_by (by decide +kernel)
abbrev s_pick : Stmt := topS 48
def N_pick : List Str := ["_law_pen_here", "_law_some"]
theorem sc_pick : FnScope N_pick ["_law_pen_here", "_law_some"] (C8.fnScope s_pick) := C8.fnScope_by (by decide +kernel)
abbrev s_testMade : Stmt := topS 49
def N_testMade : List Str := ["_law_check", "_law_word", "_law_argument", "_law_first", "_law_second", "_law_negated", "_law_found"]
theorem sc_testMade : FnScope N_testMade ["_law_check"] (C8.fnScope s_testMade) := C8.fnScope_by (by decide +kernel)
abbrev s_quoted : Stmt := topS 50
def N_quoted : List Str := ["_law_word"]
theorem sc_quoted : FnScope N_quoted ["_law_word"] (C8.fnScope s_quoted) := C8.fnScope_by (by decide +kernel)
abbrev s_allSigns : Stmt := topS 51
def N_allSigns : List Str := []
theorem sc_allSigns : FnScope N_allSigns [] (C8.fnScope s_allSigns) := C8.fnScope_by (by decide +kernel)
abbrev s_anySign : Stmt := topS 52
def N_anySign : List Str := ["_law_pen_here", "_law_line", "_law_way"]
theorem sc_anySign : FnScope N_anySign ["_law_pen_here", "_law_line"] (C8.fnScope s_anySign) := C8.fnScope_by (by decide +kernel)
abbrev s_anyWord : Stmt := topS 53
def N_anyWord : List Str := ["_law_pen_here", "_law_least", "_law_most", "_law_line", "_law_k"]
theorem sc_anyWord : FnScope N_anyWord ["_law_pen_here", "_law_least", "_law_most", "_law_line"] (C8.fnScope s_anyWord) := C8.fnScope_by (by decide +kernel)
abbrev s_anyPlain : Stmt := topS 54
def N_anyPlain : List Str := ["_law_pen_here", "_law_word", "_law_argument"]
theorem sc_anyPlain : FnScope N_anyPlain ["_law_pen_here"] (C8.fnScope s_anyPlain) := C8.fnScope_by (by decide +kernel)
abbrev s_anyTest : Stmt := topS 55
def N_anyTest : List Str := ["_law_pen_here", "_law_check"]
theorem sc_anyTest : FnScope N_anyTest ["_law_pen_here"] (C8.fnScope s_anyTest) := C8.fnScope_by (by decide +kernel)
abbrev s_testWords : Stmt := topS 56
def N_testWords : List Str := ["_law_check", "_law_word", "_law_argument", "_law_first", "_law_second", "_law_negated", "_law_found"]
theorem sc_testWords : FnScope N_testWords ["_law_check"] (C8.fnScope s_testWords) := C8.fnScope_by (by decide +kernel)
abbrev s_lineOfWords : Stmt := topS 57
def N_lineOfWords : List Str := ["_law_pen_here", "_law_words", "_law_letters", "_law_figures", "_law_line", "_law_columns", "_law_k", "_law_least", "_law_some"]
theorem sc_lineOfWords : FnScope N_lineOfWords ["_law_pen_here", "_law_words"] (C8.fnScope s_lineOfWords) := C8.fnScope_by (by decide +kernel)
abbrev s_isTest : Stmt := topS 58
def N_isTest : List Str := ["_law_made", "_law_check", "_law_word", "_law_argument", "_law_first", "_law_second", "_law_negated"]
theorem sc_isTest : FnScope N_isTest ["_law_made", "_law_check"] (C8.fnScope s_isTest) := C8.fnScope_by (by decide +kernel)
abbrev s_beyond : Stmt := topS 59
def N_beyond : List Str := ["_law_pen_here", "_law_check", "_law_way", "_law_number", "_law_word", "_law_text"]
theorem sc_beyond : FnScope N_beyond ["_law_pen_here", "_law_check"] (C8.fnScope s_beyond) := C8.fnScope_by (by decide +kernel)
abbrev s_isWrongRight : Stmt := topS 60
def N_isWrongRight : List Str := ["_law_pen_here", "_law_words", "_law_spot", "_law_told", "_law_bent", "_law_line", "_law_columns", "e"]
theorem sc_isWrongRight : FnScope N_isWrongRight ["_law_pen_here", "_law_words"] (C8.fnScope s_isWrongRight) := C8.fnScope_by (by decide +kernel)
abbrev s_lawRead : Stmt := topS 61
def N_lawRead : List Str := ["_law_line", "_law_found", "e"]
theorem sc_lawRead : FnScope N_lawRead ["_law_line"] (C8.fnScope s_lawRead) := C8.fnScope_by (by decide +kernel)
abbrev s_law : Stmt := topS 62
def N_law : List Str := ["_law_script", "_law_pen_here", "_law_check", "_law_words", "_law_told", "_law_opposite", "_law_bad", "_law_due", "_law_other", "_law_second", "_law_way", "_law_plain"]
theorem sc_law : FnScope N_law ["_law_script"] (C8.fnScope s_law) := C8.fnScope_by (by decide +kernel)
structure Tx (K : PySem.W.Frag) (w : World) (mg : Str → Option Value) : Prop where
  z_all : mg "all" = none
  z_str : mg "str" = none
  z_isinstance : mg "isinstance" = none
  z_len : mg "len" = none
  z_bool : mg "bool" = none
  z_int : mg "int" = none
  z_tuple : mg "tuple" = none
  z_list : mg "list" = none
  z_range : mg "range" = none
  z_max : mg "max" = none
  g_SIGNS : ∃ u, mg "SIGNS" = some u ∧ RelV (.str (S signsL)) u
  g_LONGEST_WORD : ∃ u, mg "LONGEST_WORD" = some u ∧ RelV (.int 6) u
  g_WORD_TESTS : ∃ d, (∃ u, mg "WORD_TESTS" = some u ∧ RelV (.ref d) u) ∧ ∀ H : Hp, SqT K H d [.str "begins", .str "ends", .str "has", .str "is"]
  g_NUMBER_TESTS : ∃ d, (∃ u, mg "NUMBER_TESTS" = some u ∧ RelV (.ref d) u) ∧ ∀ H : Hp, SqT K H d [.str "short", .str "number"]
  g_BARE_TESTS : ∃ d, (∃ u, mg "BARE_TESTS" = some u ∧ RelV (.ref d) u) ∧ ∀ H : Hp, SqT K H d [.str "all", .str "last"]
  g_BOUNDS : ∃ d, (∃ u, mg "BOUNDS" = some u ∧ RelV (.ref d) u) ∧ ∃ a b, KD K w d (fun z => if z = "short" then some (.ref a) else if z = "number" then some (.ref b) else none) ∧ (∀ H : Hp, SqT K H a [.int 0, .int 40]) ∧ ∀ H : Hp, SqT K H b [.int 1, .int 6]
  g_LETTERS : ∃ u, mg "LETTERS" = some u ∧ RelV (.str (S lowL)) u
  g_FIGURES : ∃ u, mg "FIGURES" = some u ∧ RelV (.str (S figL)) u
  g_MOST_FIGURES : ∃ u, mg "MOST_FIGURES" = some u ∧ RelV (.int 9) u
  g_MEANINGS : ∃ d, (∃ u, mg "MEANINGS" = some u ∧ RelV (.ref d) u) ∧ KD K w d kd_MEANINGS
  g_ESCAPES : ∃ d, (∃ u, mg "ESCAPES" = some u ∧ RelV (.ref d) u) ∧ KD K w d kd_ESCAPES
end Vf

set_option maxRecDepth 100000
set_option maxHeartbeats 4000000
namespace Vf
open PySem PySem.Spec PyProof.Rows L2 SX
section
variable {K : PySem.W.Frag} {C a : Addr} {H : Hp} {Q : VK} {rt : VK}
abbrev Qx (C a : Addr) (H : Hp) (Q : VK) (fs : List (Str × V)) : Prop := ∀ (d : Addr) (H2 : Hp), H d = none → d ≠ a → H2 a = some (exo a C (some d)) → H2 d = some (exd d fs) → (∀ b o, b ≠ a → H b = some o → H2 b = some o) → (∀ b, H2 b = none → H b = none) → Q .non H2
theorem inx1 {f : Str} {y : V} {σ : L2.St} (O : OexC K C) (no : ∀ g ∈ [f], PySem.W.findIn K (.ref C) g = some none) (ha : H a = some (exo a C none)) (q : Qx C a H Q ([f].zip [y]).reverse)
    (s0 : σ[0]? = some (some (.ref a))) (s1 : σ[1]? = some (some y)) : tOst K f (tVar 0) (tVar 1) { nx := fun _ h => Q .non h, rt := rt } σ H := by
  refine ⟨y, s1, .ref a, s0, a, C, rfl, O, no f (List.mem_singleton.mpr rfl), .inl ⟨ha, fun d hd nd => q d _ hd nd upd_same (by rw [upd_ne nd]; exact upd_same) (fun b o n z => by rw [upd_ne n, upd_ne (ne_of_none z hd)]; exact z) (fun b z => ?_)⟩⟩
  by_cases e1 : b = a
  · subst e1; rw [upd_same] at z; cases z
  · rw [upd_ne e1] at z
    by_cases e2 : b = d
    · subst e2; exact hd
    · rw [upd_ne e2] at z; exact z
theorem inx2 {f1 f2 : Str} {y1 y2 : V} {σ : L2.St} (O : OexC K C) (no : ∀ g ∈ [f1, f2], PySem.W.findIn K (.ref C) g = some none) (ha : H a = some (exo a C none)) (q : Qx C a H Q ([f1, f2].zip [y1, y2]).reverse) :
    σ[0]? = some (some (.ref a)) → σ[1]? = some (some y1) → σ[2]? = some (some y2) → tSeq (tOst K f1 (tVar 0) (tVar 1)) (tOst K f2 (tVar 0) (tVar 2)) { nx := fun _ h => Q .non h, rt := rt } σ H := by
  intro s0 s1 s2
  refine ⟨y1, s1, .ref a, s0, a, C, rfl, O, no f1 (by simp), .inl ⟨ha, fun d hd nd => ?_⟩⟩
  have e1 : (upd (upd H d (exd d [(f1, y1)])) a (exo a C (some d))) a = some (exo a C (some d)) := upd_same
  have e2 : (upd (upd H d (exd d [(f1, y1)])) a (exo a C (some d))) d = some (exd d [(f1, y1)]) := by rw [upd_ne nd]; exact upd_same
  refine ⟨y2, s2, .ref a, s0, a, C, rfl, O, no f2 (by simp), .inr ⟨d, [(f1, y1)], e1, e2, by show 1 ≤ 900; omega, ?_⟩⟩
  refine q d _ hd nd (by rw [upd_ne nd.symm]; exact e1) upd_same (fun b o n z => ?_) (fun b z => ?_)
  · rw [upd_ne (ne_of_none z hd), upd_ne n, upd_ne (ne_of_none z hd)]; exact z
  · by_cases g1 : b = d
    · subst g1; exact hd
    · rw [upd_ne g1] at z
      by_cases g2 : b = a
      · subst g2; rw [upd_same] at z; cases z
      · rw [upd_ne g2, upd_ne g1] at z; exact z
end
abbrev i_BadText : Stmt := (C8.clsBody (topS 2)).getD 0 (.Pass ⟨0, 0, 0, 0⟩)
theorem si_BadText : FnScope ["self", "line", "column"] ["self", "line", "column"] (C8.fnScope i_BadText) := C8.fnScope_by (by decide +kernel)
theorem ini_BadText {P : Program} {w : World} {K : PySem.W.Frag} {mg : Str → Option Value} {base : Heap} {C f : Addr} {fd : FuncData} {q : Str} (O : OexC K C) (no : ∀ f ∈ (["line", "column"] : List Str), PySem.W.findIn K (.ref C) f = some none) (F : C8.Fun K "__init__" q i_BadText f fd) : FnOk P w K mg base C8.CX0 1 f fd ["self", "line", "column"] (sp_inx C ["line", "column"]) := by
  refine C8.fn0 F si_BadText (fun vs H Q E h => ?_) (fun cdv A outer s H vs Q E hr h => ?_)
  · obtain ⟨a, ys, rfl, h, _⟩ := h; exact congrArg (· + 1) h
  refine ⟨_, (pss_cons (ps_ost (pv 0) (pv 1)) (pss_one (ps_ost (pv 0) (pv 2)))), ?_⟩
  obtain ⟨a, ys, rfl, hl, ha, q⟩ := h
  match ys, hl with
  | [y0, y1], _ =>
    exact inx2 O no ha q rfl rfl rfl
abbrev i_BadWord : Stmt := (C8.clsBody (topS 3)).getD 0 (.Pass ⟨0, 0, 0, 0⟩)
theorem si_BadWord : FnScope ["self", "what"] ["self", "what"] (C8.fnScope i_BadWord) := C8.fnScope_by (by decide +kernel)
theorem ini_BadWord {P : Program} {w : World} {K : PySem.W.Frag} {mg : Str → Option Value} {base : Heap} {C f : Addr} {fd : FuncData} {q : Str} (O : OexC K C) (no : ∀ f ∈ (["what"] : List Str), PySem.W.findIn K (.ref C) f = some none) (F : C8.Fun K "__init__" q i_BadWord f fd) : FnOk P w K mg base C8.CX0 1 f fd ["self", "what"] (sp_inx C ["what"]) := by
  refine C8.fn0 F si_BadWord (fun vs H Q E h => ?_) (fun cdv A outer s H vs Q E hr h => ?_)
  · obtain ⟨a, ys, rfl, h, _⟩ := h; exact congrArg (· + 1) h
  refine ⟨_, (pss_one (ps_ost (pv 0) (pv 1))), ?_⟩
  obtain ⟨a, ys, rfl, hl, ha, q⟩ := h
  match ys, hl with
  | [y0], _ =>
    exact inx1 O no ha q rfl rfl
abbrev i_BadNumber : Stmt := (C8.clsBody (topS 4)).getD 0 (.Pass ⟨0, 0, 0, 0⟩)
theorem si_BadNumber : FnScope ["self", "what", "number"] ["self", "what", "number"] (C8.fnScope i_BadNumber) := C8.fnScope_by (by decide +kernel)
theorem ini_BadNumber {P : Program} {w : World} {K : PySem.W.Frag} {mg : Str → Option Value} {base : Heap} {C f : Addr} {fd : FuncData} {q : Str} (O : OexC K C) (no : ∀ f ∈ (["what", "number"] : List Str), PySem.W.findIn K (.ref C) f = some none) (F : C8.Fun K "__init__" q i_BadNumber f fd) : FnOk P w K mg base C8.CX0 1 f fd ["self", "what", "number"] (sp_inx C ["what", "number"]) := by
  refine C8.fn0 F si_BadNumber (fun vs H Q E h => ?_) (fun cdv A outer s H vs Q E hr h => ?_)
  · obtain ⟨a, ys, rfl, h, _⟩ := h; exact congrArg (· + 1) h
  refine ⟨_, (pss_cons (ps_ost (pv 0) (pv 1)) (pss_one (ps_ost (pv 0) (pv 2)))), ?_⟩
  obtain ⟨a, ys, rfl, hl, ha, q⟩ := h
  match ys, hl with
  | [y0, y1], _ =>
    exact inx2 O no ha q rfl rfl rfl
structure Es (P : Program) (w : World) (K : PySem.W.Frag) (mg : Str → Option Value) (base : Heap) (CBadText CBadWord CBadNumber CW : Addr) : Prop where
  r_BadText : Rk P w K mg base "BadText" CBadText ["line", "column"]
  r_BadWord : Rk P w K mg base "BadWord" CBadWord ["what"]
  r_BadNumber : Rk P w K mg base "BadNumber" CBadNumber ["what", "number"]
  x : XF K CBadWord CBadNumber CW
  g_WorkshopError : mg "WorkshopError" = some (.ref CW)

end Vf

set_option maxRecDepth 100000
set_option maxHeartbeats 4000000
namespace Vf
open PySem PySem.Spec PyProof.Rows L2 SX
/-! ### a comprehension whose element raises -/
section
variable {X : Cx} {pins : List (Addr × Obj)} {σ : L2.St} {H H2 : Hp} {s t : Shared} {E : XK} {C a : Addr} {B D G3 h9 : Heap} {cls : Value} {d : Option Addr}
theorem out_air (IX : Inv X pins σ H s) (fC : FpOk X pins H C) (oC : ∃ o, s.heap.get? C = some o) (hB : HOk X.prog X.w H2 B) (ub : UB (frs X.stack) H H2 s.heap B h9)
    (d1 : ∀ b, b ≠ C → D.get? b = B.get? b) (d2 : D.get? C = none) (sl3 : ∀ b o, s.heap.get? b = some o → b ∈ frs X.stack → ∃ sl, G3.get? b = some { o with slots := sl })
    (hh : HandSPX.HeldZ D X.stack a (Zc cls d) X.env.locals G3) (na : H2 a = none) (os : t.os = s.os) (ag : AllBare t.gens) (w : E cls d H2) :
    XE X (fun c d _ H => E c d H) (.ref a) { t with heap := G3 } := by
  have nC : H2 C = none := by
    obtain ⟨o, e⟩ := oC
    exact ub.free C o e fC.1
  have stD : D.StaysIn G3 := hh.1
  obtain ⟨G, r1, r2⟩ := restrict G3 fun b => (D.get? b).isSome || decide (b ∈ frs X.stack)
  have gd : ∀ b o, D.get? b = some o → G.get? b = some o := fun b o q => (r1 b (by rw [q]; rfl)).trans (stD b o q)
  have gf : ∀ b, b ∈ frs X.stack → G.get? b = G3.get? b := fun b q => r1 b (by rw [decide_eq_true q, Bool.or_true])
  have og : ∀ b o, G.get? b = some o → G3.get? b = some o ∧ ((D.get? b).isSome = true ∨ b ∈ frs X.stack) := fun b o q => by
    by_cases hp : ((D.get? b).isSome || decide (b ∈ frs X.stack)) = true
    · exact ⟨(r1 b hp).symm.trans q, (Bool.or_eq_true ..).mp hp |>.imp id fun z => of_decide_eq_true z⟩
    · rw [r2 b (Bool.eq_false_iff.mpr hp)] at q
      cases q
  have hG : HOk X.prog X.w H2 G := fun b o q => (hB b o q).stay (fun c u hc r => by
    have nc : c ≠ C := fun z => by
      rcases hc with hc | hc
      · rw [← hc, z, nC] at q; cases q
      · rw [z, nC] at hc; cases hc
    exact gd c u ((d1 c nc).trans r)) (fun _ z => z) fun _ _ z => z
  refine ⟨a, D, { s with heap := G, gens := t.gens, drawn := t.drawn, toks := t.toks }, pins, σ, H2, cls, d, rfl, ?_, fun b o q nb => ?_, Heap.UpToSlots.of_keeps fun b o q => (og b o q).1, .inr (.inr hh), na, os, ag, w⟩
  · refine IX.call (ch := [C]) ⟨fun b o q n nf nc => gd b o ((d1 b fun z => nc (by rw [z]; exact List.mem_singleton.mpr rfl)).trans (ub.keep b o q n nf)), fun b o q n hb nc => ?_, fun b o q n _ => ub.free b o q n, fun b o q nc => ?_, ub.tups, ub.frzs, ub.tbls⟩ hG ag (fun b hb => ?_)
    · obtain ⟨sl, z⟩ := sl3 b o q hb
      exact ⟨sl, (gf b hb).trans z⟩
    · by_cases hb : b ∈ frs X.stack
      · obtain ⟨sl, z⟩ := sl3 b o q hb
        exact ⟨_, (gf b hb).trans z⟩
      · obtain ⟨u, z⟩ := ub.there b o q hb
        exact ⟨u, gd b u ((d1 b fun y => nc (by rw [y]; exact List.mem_singleton.mpr rfl)).trans z)⟩
    · rw [List.mem_singleton.mp hb]
      exact ⟨fC.2.2.2.1, fC.2.1, fC.2.2.2.2.1, fC.2.2.2.2.2⟩
  · obtain ⟨q3, z⟩ := og b o q
    rcases z with z | z
    · obtain ⟨u, y⟩ := Option.isSome_iff_exists.mp z
      have := stD b u y
      rw [q3] at this
      rw [y, this]
    · exact absurd z nb
/-- such an exception passes the block -/
theorem out_block {ce : Env} {e : Value} {m : Str → Option Value} (hs : X.stack = X.env :: X.outer) (hf : X.env.frame = some X.env.locals) (cf : ce.frame = X.env.frame) (cl : ce.locals = C) (tk : Takes X (fun c d _ H => E c d H))
    (IX : Inv X pins σ H s) (fC : FpOk X pins H C) (nsC : s.heap.Ns C m) (c : CX X.prog X.w X.stack H s E e t) : notedBy (model X.prog X.w) X.A ce (CompFails (model X.prog X.w) X.A X.xe ce) e t := by
  obtain ⟨a, B, H2, cls, d, rfl, fl, hB, ub, na, os, ag, w⟩ := c
  have hfr : X.A.frames = some (X.env :: X.outer) := by rw [IX.ok.frames, hs]
  obtain ⟨oC, es, ep, gC, dC, rC⟩ := id nsC
  have sub := IX.stkSub
  have nCf : C ∉ frs X.stack := fun z => (List.mem_cons.mp (sub C z)).elim fC.2.1 fC.2.2.1
  have bC : B.get? C = some oC := ub.keep C oC gC fC.1 nCf
  show wpAny _ _ (noteFrame (.ref a) ce) _ _ t
  rw [noteFrame_env _ cf]
  rw [hs] at fl
  refine HandSPX.looks_onZ Zc.steady hfr hf fl fun h1 hH up => ?_
  obtain ⟨b1, b0, f1, oe, vs, T, oT, ts, he, hz, hd, hv, nT, Te, gT, dT, h3⟩ := hH
  have n1 : h1.Ns ce.locals m := by rw [cl]; exact ⟨oC, es, ep, b1 C oC bC, dC, rC⟩
  refine ⟨m, n1, fun h2 m2 n2 sb => ?_⟩
  rw [cl] at n2 sb
  obtain ⟨D, e1, e2⟩ := restrict B fun b => decide (b ≠ C)
  have d1 : ∀ b, b ≠ C → D.get? b = B.get? b := fun b hb => e1 b (decide_eq_true hb)
  have d2 : D.get? C = none := e2 C (decide_eq_false fun z => z rfl)
  have dn : ∀ b, B.get? b = none → D.get? b = none := fun b z => by
    by_cases y : b = C
    · rw [y]; exact d2
    · rw [d1 b y]; exact z
  have ac : a ≠ C := fun z => by rw [z, bC] at b0; cases b0
  have tc : T ≠ C := fun z => by rw [z, bC] at nT; cases nT
  have st2 : D.StaysIn h2 := fun b o q => by
    have y : b ≠ C := fun z => by rw [z, d2] at q; cases q
    rw [d1 b y] at q
    exact (sb.2 b y).trans (b1 b o q)
  have f2 : h2.FunFrames D (X.env :: X.outer) := funFrames_none (Heap.FunFrames.sameBut sb n2 f1) fun L hL => dn L (by
    obtain ⟨z, _⟩ := f1.mem hL
    exact z)
  have tr : HandSPX.TracedZ h2 D a (Zc cls d) (rawInt X.env.locals) := ⟨oe, vs, T, oT, ts, (sb.2 a ac).trans he, hz, hd, hv, dn T nT, Te, (sb.2 T tc).trans gT, dT, h3⟩
  unfold PySem.passOn
  refine wpAny_bind (wpAny_field ((sb.2 a ac).trans he) hd hv ?_)
  rw [if_neg (show ¬ ((Value.ref T == Value.none) = true) from by simp), cf, hf]
  refine wpAny_bind (HandSPX.setFlight_onZ (L := X.env.locals) (base := D) (l := X.env :: X.outer) (Z := Zc cls d) ⟨st2, dn a b0, f2, tr⟩ fun h3 hH3 up3 => ?_)
  refine wpAny_throw (tk _ _ (out_air IX fC ⟨oC, gC⟩ hB ub d1 d2 (fun b o q hb => ?_) (by rw [hs]; exact hH3) na os ag w))
  obtain ⟨sl, q1⟩ := ub.slot b o q hb
  obtain ⟨_, o', q2, nf⟩ := IX.stack.mem hb
  rw [q] at q2
  cases q2
  obtain ⟨sl2, q3⟩ := up b _ q1 nf
  have y : b ≠ C := fun z => nCf (z ▸ hb)
  obtain ⟨sl3, q4⟩ := up3 b _ ((sb.2 b y).trans q3) nf
  exact ⟨sl3, q4⟩
end
end Vf

set_option maxRecDepth 100000
set_option maxHeartbeats 4000000
namespace Vf
open PySem PySem.Spec PyProof.Rows L2 SX
abbrev BX (X : Cx) (s : Shared) (H : Hp) (scope : Scope) (cl : List (Str × Addr)) (C : Addr) (fp : List Addr) : Cx := X.blk s H scope (compEnvC scope cl C X.env) fp
/-- the element may raise what E wants -/
abbrev ElX (X : Cx) (E : XK) (scope : Scope) (elt : Expr) (te : TE) : Prop := ∀ (s : Shared) (H : Hp) (C : Addr) (cl : List (Str × Addr)) (fp : List Addr) (pn : List (Addr × Obj)) (xe : Value → Shared → Prop),
  (∀ σ, PassesAt (L2.CX X.prog X.w) ((BX X s H scope cl C fp).tr pn xe) σ E) → PE ((BX X s H scope cl C fp).tr pn xe) elt te
section
variable {X : Cx} {E : XK}
theorem lc_coreX {pins : List (Addr × Obj)} {s : Shared} {σ : L2.St} {H : Hp} {Q : VK} {elt tg iter : Expr} {ifs : List Expr} {scope : Scope} {own : List (Str × Nat)} {pos pos' : Pos} {wi : TI} {g : TG} {tt : TT} {te : TE} {use : Option (Value → Sem Unit)} {Qf : Value → Shared → Prop}
    (ss : X.stack = X.env :: X.outer) (sf : X.env.frame = some X.env.locals) (tk : Takes X (fun c d _ H => E c d H)) (calm : X.calm = true) (nd : X.N.Nodup) (I : Inv X pins σ H s) (pi : PI X tg iter wi) (bo : BlkOk X.N X.env.scope scope own)
    (pg : ∀ s H C cl fp, PG (BX X s H scope cl C fp) tg g) (pt : ∀ s H C cl fp, PTs (BX X s H scope cl C fp) ifs tt) (px : ElX X E scope elt te) (fo : ∀ x, foldedSetIterable iter X.env x = pure x)
    (h : tLc wi g tt te (own.map (·.2)) σ H Q)
    (fin : ∀ D ce s' m H', Inv X pins σ H' s' → Q (.ref D) H' → s'.heap.Ns ce.locals m → FpOk X pins H' ce.locals → compEnds (model X.prog X.w) X.A X.xe use Qf (.ref D) ce (.ok .next) s') :
    wpAny (model X.prog X.w) X.A (comprehension (.ListComp elt [⟨tg, iter, ifs, 0⟩] scope pos) scope X.env pos' (newList []) false (eval iter X.env) use) Qf X.xe s := by
  have fr : ∀ y ∈ scope.names, y.2 = .free → ∃ c, X.env.cells.lookup y.1 = some c := fun y hy e =>
    (bo.free y hy e).elim (fun k => I.ok.has _ (.inl k)) fun k => I.ok.has _ (.inr k)
  refine comprehension_at (use := use) rfl fo (closure_ok fr) bo.kind (fun y hy e => (bo.uniq y hy).trans (congrArg some e)) (thn (pi.run pins s σ H _ I h) fun xv s1 hx => thn hx fun itv s2 z2 => ?_)
  obtain ⟨it, fp, tn, J, H2, rfl, I2, T, st2, f2, q⟩ := z2
  refine wpAny_newObj_type (newEnv_comp ?_) (by show 0 ≤ sizeLine; decide)
  obtain ⟨D, eD⟩ : ∃ D, D = s2.heap.objs.size := ⟨_, rfl⟩
  have nD : H2 D = none := I2.hok.fresh (Nat.le_of_eq eD.symm)
  obtain ⟨W, ⟨m0, w0⟩, turn⟩ := q D nD
  obtain ⟨s3, es3⟩ : ∃ s3 : Shared, s3 = { s2 with heap := s2.heap.push { cls := .type "list", data := .seq ([] : List Value).toArray } } := ⟨_, rfl⟩
  rw [← es3, ← eD]
  have h3 : s3.heap = s2.heap.push { cls := .type "list", data := .seq ([] : List Value).toArray } := by rw [es3]
  have I3 : Inv X pins σ (upd H2 D (.lst [])) s3 := by
    rw [es3]
    refine I2.laid (t' := s2.toks) (fun b o e => Heap.get?_push_of_some _ e) (Nat.le_of_eq eD.symm) ⟨Nat.zero_le _, [], 0, .nil, ?_⟩
    rw [eD]
    exact Heap.get?_push_size _ rfl
  have f3 : ∀ b ∈ fp, FpOk X pins (upd H2 D (.lst [])) b ∧ b < s3.heap.objs.size := fun b hb => by
    obtain ⟨o, e, _⟩ := T.obj _ _ st2 b hb
    have lt := Heap.lt_size e
    refine ⟨⟨?_, (f2 b hb).2⟩, by rw [h3, Heap.size_push]; exact Nat.lt_succ_of_lt lt⟩
    rw [upd_ne (by rw [eD]; exact Nat.ne_of_lt lt)]
    exact (f2 b hb).1
  have st3 : tn 0 s3.heap := T.keep _ _ _ st2 fun b _ o e => by rw [h3]; exact Heap.get?_push_of_some _ e
  obtain ⟨H3, eH3⟩ : ∃ H3, H3 = upd H2 D (.lst []) := ⟨_, rfl⟩
  rw [← eH3] at I3 f3 w0
  have I4 := block_start I3 bo nd f3
  obtain ⟨C, eC⟩ : ∃ C, C = s3.heap.objs.size := ⟨_, rfl⟩
  rw [← eC] at I4 ⊢
  obtain ⟨cl, ecl⟩ : ∃ cl, cl = cellsFrom (C + 1) scope.names (cloFrom X.env.cells scope.names []) := ⟨_, rfl⟩
  rw [← ecl] at I4
  have pg := pg s3 H3 C cl fp
  have pt := pt s3 H3 C cl fp
  have px := px s3 H3 C cl fp
  obtain ⟨ce, ece⟩ : ∃ ce, ce = compEnvC scope cl C X.env := ⟨_, rfl⟩
  have cL : ce.locals = C := by rw [ece]; rfl
  have cF : ce.frame = X.env.frame := by rw [ece]; rfl
  have Y : BX X s3 H3 scope cl C fp = X.blk s3 H3 scope ce fp := by rw [ece]
  have goal : codeAny (model X.prog X.w) X.A (.compStart (.ListComp elt [⟨tg, iter, ifs, 0⟩] scope pos) 0 (.ref it) (.ref D) ce) (compEnds (model X.prog X.w) X.A X.xe use Qf (.ref D) ce) { s3 with heap := pushCells (s3.heap.push { cls := .type "dict", data := .dict #[] }) scope.names } := by
    rw [Y] at pg pt px
    rw [← ece] at I4
    obtain ⟨s4, es4⟩ : ∃ s4 : Shared, s4 = { s3 with heap := pushCells (s3.heap.push { cls := .type "dict", data := .dict #[] }) scope.names } := ⟨_, rfl⟩
    rw [← es4] at I4 ⊢
    have st4 : tn 0 s4.heap := T.keep _ _ _ st3 fun b _ o e => by rw [es4]; exact pushCells_keeps _ _ _ _ (Heap.get?_push_of_some _ e)
    have stat : ∀ {σ' : L2.St} {H' : Hp} {s' : Shared}, Inv (X.blk s3 H3 scope ce fp) [] σ' H' s' → (∀ b ∈ fp, H' b = none) → ∀ b ∈ fp, FpOk (X.blk s3 H3 scope ce fp) [] H' b := fun {σ' H' s'} J' n b hb =>
      ⟨n b hb, (J'.ok.exf b hb).1, J'.ok.exfs b hb, .inl hb, fun x c e => (J'.ok.exf b hb).2 x c e, fun p hp => absurd (show p ∈ ([] : List (Addr × Obj)) ++ [] from hp) (by simp)⟩
    -- what the def's context knows of a state within
    have back : ∀ {pn : List (Addr × Obj)} {σ' : L2.St} {H' : Hp} {s' : Shared}, Inv (X.blk s3 H3 scope ce fp) pn σ' H' s' → Inv X pins σ H' s' ∧ FpOk X pins H' C ∧ ∃ m, s'.heap.Ns C m := fun {pn σ' H' s'} J' => by
      have z : H' ce.locals = none := J'.free
      rw [cL] at z
      obtain ⟨m, hm, _⟩ := J'.loc
      have hm : s'.heap.Ns ce.locals m := hm
      rw [cL] at hm
      exact ⟨I3.call' (ch := fp) J'.os J'.base J'.hok J'.bare fun b hb => ⟨(f3 b hb).1.2.2.2.1, (f3 b hb).1.2.1, (f3 b hb).1.2.2.2.2.1, (f3 b hb).1.2.2.2.2.2⟩, I3.fpOk (Nat.le_of_eq eC.symm) z, m, hm⟩
    have loop : codeAny (model X.prog X.w) X.A (.compLoop (.ListComp elt [⟨tg, iter, ifs, 0⟩] scope pos) 0 (.ref it) (.ref D) ce) (compEnds (model X.prog X.w) X.A X.xe use Qf (.ref D) ce) s4 := by
      refine compLoop_any (fun n s' => ∃ i H', Inv (X.blk s3 H3 scope ce fp) [] (wipe σ (own.map (·.2))) H' s' ∧ tn i s'.heap ∧ (∀ b ∈ fp, H' b = none) ∧ W i n H') ?_ m0 ⟨0, H3, I4, st4, fun b hb => (f3 b hb).1.1, w0⟩
      rintro n s5 ⟨i, H5, I5, st5, n5, w5⟩
      rcases turn i n H5 w5 with ⟨stop, qq⟩ | ⟨go, Nx, hNx, step⟩
      · refine thnF (T.done (X.blk s3 H3 scope ce fp) rfl rfl rfl calm i [] s5 _ H5 (fun _ _ => False) I5 (stat I5 n5) st5 stop) fun r s6 ⟨hr, I6⟩ => ?_
        subst hr
        obtain ⟨b1, b2, m, b3⟩ := back I6
        exact fin D ce s6 m H5 b1 qq (by rw [cL]; exact b3) (by rw [cL]; exact b2)
      · refine thnF (T.item (X.blk s3 H3 scope ce fp) rfl rfl rfl calm i [] s5 _ H5 (fun _ _ => False) I5 (stat I5 n5) st5 go) fun r s6 ⟨u, hr, h6⟩ => ?_
        subst hr
        refine thnF h6 fun _ s7 ⟨x, H7, I7, r7, y7, st7, n7⟩ => ?_
        have I8 := I7.pinned (stat I7 n7) (T.obj _ _ st7)
        refine thnF (pg.run _ s7 _ H7 x u _ I8 r7 (step x H7 y7)) fun _ s8 ⟨σ8, H8, I9, w8, q8⟩ => ?_
        refine thnF (pt.run _ s8 σ8 H8 _ I9 q8) fun b s9 ⟨H9, J9, q9⟩ => ?_
        have next : ∀ {s' : Shared} {H' : Hp}, Inv (X.blk s3 H3 scope ce fp) ([] ++ pinsAt fp s7.heap) σ8 H' s' → Nx H' → ∃ m, m < n ∧ ∃ i H', Inv (X.blk s3 H3 scope ce fp) [] (wipe σ (own.map (·.2))) H' s' ∧ tn i s'.heap ∧ (∀ b ∈ fp, H' b = none) ∧ W i m H' := fun {s' H'} K nx => by
          obtain ⟨m', lt, w'⟩ := hNx H' nx
          have there : ∀ b ∈ fp, ∀ o, s7.heap.get? b = some o → s'.heap.get? b = some o ∧ H' b = none := fun b hb o e =>
            ⟨(K.pin (b, o) (List.mem_append_right _ (List.mem_append_right _ (mem_pinsAt hb e)))).1, (K.pin (b, o) (List.mem_append_right _ (List.mem_append_right _ (mem_pinsAt hb e)))).2.1⟩
          refine ⟨m', lt, i + 1, H', (K.unpinned (pins := [])).weak (by rw [← w8, wipe_length]) (fun j v e => (wipe_some (by rw [← w8] at e; exact e)).1), T.keep _ _ _ st7 fun b hb o e => (there b hb o e).1, fun b hb => ?_, w'⟩
          obtain ⟨o, e, _⟩ := T.obj _ _ st7 b hb
          exact (there b hb o e).2
        cases b with
        | false =>
          rw [if_neg Bool.false_ne_true] at q9 ⊢
          exact next J9 q9
        | true =>
          rw [if_pos rfl] at q9 ⊢
          have pas : ∀ σ, PassesAt (L2.CX X.prog X.w) ((X.blk s3 H3 scope ce fp).tr ((X.blk s3 H3 scope ce fp).pn ++ ([] ++ pinsAt fp s7.heap)) (notedBy (model X.prog X.w) X.A ce fun e s' => compEnds (model X.prog X.w) X.A X.xe use Qf (.ref D) ce (.error e) s')) σ E := fun σ' pins' Hc sc e sd K c => by
            obtain ⟨b1, b2, m, b3⟩ := back (K.ofTry J9.ok)
            have z := out_block ss sf cF cL tk b1 b2 b3 c
            cases use <;> exact z
          refine wpAny_mono ((px _ _ pas).run [] s9 σ8 H9 _ (J9.toTry _) q9) (fun z s10 ⟨yv, H10, I10, r10, acc, hD, hz, nx⟩ => ?_) fun _ _ y => y
          exact app_ok (X := X.blk s3 H3 scope ce fp) (I10.ofTry J9.ok) hD hz r10 fun s11 I11 => next I11 nx
    exact codeAny_compStart_list loop (T.self X.A 0 _ _ _ st4 loop)
  rw [ece, ecl] at goal
  exact goal
/-- name = [..], the element may raise -/
theorem ps_setLcX {i : Nat} {y : Str} {py : Pos} {elt tg iter : Expr} {ifs : List Expr} {scope : Scope} {own : List (Str × Nat)} {pos spos : Pos} {wi : TI} {g : TG} {tt : TT} {te : TE}
    (ss : X.stack = X.env :: X.outer) (sf : X.env.frame = some X.env.locals) (tk : Takes X (fun c d _ H => E c d H)) (calm : X.calm = true) (nd : X.N.Nodup) (hy : X.N[i]? = some y) (lo : X.env.scope.names.lookup y = some .local)
    (sw : swapsWith (.ListComp elt [⟨tg, iter, ifs, 0⟩] scope pos) (some (.Name y py)) spos.line X.env = pure true) (pi : PI X tg iter wi) (bo : BlkOk X.N X.env.scope scope own)
    (pg : ∀ s H C cl fp, PG (BX X s H scope cl C fp) tg g) (pt : ∀ s H C cl fp, PTs (BX X s H scope cl C fp) ifs tt) (px : ElX X E scope elt te) (fo : ∀ x, foldedSetIterable iter X.env x = pure x := by intro _; rfl) :
    PS X (.Assign [.Name y py] (.ListComp elt [⟨tg, iter, ifs, 0⟩] scope pos) spos) (tAsg (tLc wi g tt te (own.map (·.2))) (gName i)) := by
  refine ⟨fun pins s σ H D I h => ?_⟩
  rw [exec_Assign_Name_used _ _ _ _ sw]
  refine wpAny_bind (wpAny_standAt (wpAny_bind ?_))
  have h : tLc wi g tt te (own.map (·.2)) σ H (fun x H1 => gName i x σ H1 D.nx) := h
  refine wpAny_bind (thn (lc_coreX (E := E) (Qf := fun _ s' => SP X pins D .next s') (use := some (assign (.Name y py) X.env)) ss sf tk calm nd I pi bo pg pt px fo h fun L ce s' m H' J q n f => ?_) fun _ s' z => wpAny_pure (wpAny_pure z))
  show wpAny _ _ (assign (.Name y py) X.env (.ref L)) _ _ _
  refine wpAny_assign_Name (store_ok2 (v := V.ref L) J nd hy (.inl lo) rfl (fun s2 I2 ⟨a, sb, ha⟩ => ?_) (.inr lo))
  have ca : ce.locals ≠ a := ha.elim (fun z => z ▸ f.2.1) fun z e => f.2.2.2.2.1 y a z e.symm
  exact ⟨m, n.sameBut sb ca, fun h3 sb3 => ⟨_, H', I2.turned (t' := s2.toks) (fun b o hb e => (sb3.2 b hb).trans e) f.1 f.2.1 f.2.2.2.1 f.2.2.2.2.1 f.2.2.2.2.2, q⟩⟩
end
section
variable {X : Cx} {E : XK} {k j : Nat} {x : Str} {sp : Sp} {p pos : Pos} {e : Expr} {es : List Expr} {t : TA}
theorem pe_cxP (c : CalX X.prog X.w X.K X.mg X.base k x sp) (hr : Room j X.A) (hk : k ≤ j) (hg : Gl X x) (pa : ∀ σ, PassesAt (L2.CX X.prog X.w) X σ E) (ha : PA X (e :: es) t)
    (hdb : (x == ("__debug__" : Str)) = false := by decide) (he : starEach (e :: es) X.env = (false, eval e X.env) :: starEach es X.env := by rfl) (hpl : (backTo pos (starEach es X.env)).any (·.1) = false := by rfl) :
    PE X (.Call (.Name x p) (e :: es) [] pos) (tCallS sp (fun _ => E) t) := by
  obtain ⟨f, fd, ps, F, hm, kp, b⟩ := c.ex
  exact pe_callS F (hr.mono hk) hg hm kp b pa ha hdb he hpl
end
end Vf

set_option maxRecDepth 100000
set_option maxHeartbeats 4000000
namespace Vf
open PySem PySem.Spec PyProof.Rows L2 SX
section
variable {P : Program} {w : World} {K : PySem.W.Frag} {mg : Str → Option Value} {base : Heap}
/-! ### the promises -/
def spPost (p c : Addr) (m k : Nat) (H : Hp) (R : V → Hp → Prop) (Q : VK) : Prop := ∀ (H' : Hp) (v : V), Ks H H' → PenAt H' p c (m + k) → R v H' → Q v H'
def sp_pen (K : PySem.W.Frag) : Sp := fun vs H Q _ => ∃ (a : Addr) (ns : List Int), vs = [.ref a] ∧ SqL K H a (ns.map V.int) ∧ ns.length ≤ 63 ∧ ∀ (H' : Hp) (p c : Addr), Ks H H' → PenAt H' p c 0 → Q (.ref p) H'
def sp_draw : Sp := fun vs H Q _ => ∃ (p c : Addr) (m n : Nat), vs = [.ref p, .int (n : Int)] ∧ PenAt H p c m ∧ m < 1000000 ∧ 1 ≤ n ∧ n < 1073741824 ∧ ∀ (H' : Hp) (r : Nat), Ks H H' → PenAt H' p c (m + 1) → r < n → Q (.int (r : Int)) H'
def sp_pick : Sp := fun vs H Q _ => ∃ (p c : Addr) (m : Nat) (x : V), vs = [.ref p, x] ∧ PenAt H p c m ∧ m < 1000000 ∧
  ((∃ l : List Nat, x = .str (S l) ∧ 1 ≤ l.length ∧ l.length ≤ 1000000 ∧ ∀ (H' : Hp) (ch : Nat), Ks H H' → PenAt H' p c (m + 1) → ch ∈ l → Q (.str (S [ch])) H') ∨
   ∃ (a : Addr) (xs : List V), x = .ref a ∧ H a = some (.lst xs) ∧ 1 ≤ xs.length ∧ xs.length ≤ 1000000 ∧ ∀ (H' : Hp) (v : V), Ks H H' → PenAt H' p c (m + 1) → v ∈ xs → Q v H')

/-! ### a comprehension over a range whose element draws -/
theorem lc_pen {p c : Addr} {m0 n s : Nat} {te : TE} {k : Nat} {σ : L2.St} {H1 : Hp} {D : Addr} {Qd : Hp → Prop} (R : V → Hp → Prop) (stab : ∀ v H H', Tk H H' → R v H → R v H') (hk : k < σ.length) (hD : H1 D = none) (hp : PenAt H1 p c m0) (hn : n ≤ 1000000)
    (hs : ∀ (i : Nat) (H : Hp) (m : Nat) (Q : VK), i < n → PenAt H p c m → m ≤ m0 + i * s → (∀ (H' : Hp) (v : V), Ks H H' → PenAt H' p c (m + s) → R v H' → Q v H') → te ((wipe σ [k]).set k (some (.int ((0 : Int) + i)))) H Q)
    (hd : ∀ (H : Hp) (xs : List V), xs.length = n → (∀ v ∈ xs, R v H) → H D = some (.lst xs) → Ks H1 H → PenAt H p c (m0 + n * s) → Qd H) :
    ∃ W : Nat → Nat → Hp → Prop, (∃ m, W 0 m (upd H1 D (.lst []))) ∧ ∀ i m H, W i m H →
      ((Itr 0 n).stop i H ∧ Qd H) ∨ ((Itr 0 n).go i H ∧ ∃ Nx : Hp → Prop, (∀ H', Nx H' → ∃ m', m' < m ∧ W (i + 1) m' H') ∧ ∀ x H', (Itr 0 n).yld i H x H' → gName k x (wipe σ [k]) H' fun σ2 H2 => wipe σ2 [k] = wipe σ [k] ∧ tYes σ2 H2 fun b H3 =>
        if b = true then te σ2 H3 fun y H4 => ∃ acc, H4 D = some (.lst acc) ∧ acc.length < sizeLine ∧ Nx (upd H4 D (.lst (acc ++ [y]))) else Nx H3) := by
  have nD := hp.ne hD
  refine lc_range (lo := 0) (n := n) (fun i H => ∃ xs : List V, xs.length = i ∧ (∀ v ∈ xs, R v H) ∧ H D = some (.lst xs) ∧ Ks H1 H ∧ PenAt H p c (m0 + i * s)) ?_ ?_ ?_
  · exact ⟨[], rfl, (fun _ h => nomatch h), upd_same, Ks.new1 hD _, by rw [Nat.zero_mul]; exact hp.new hD⟩
  · rintro i H hi ⟨xs, e1, e2, e3, e4, e5⟩
    refine ⟨?_, ?_⟩
    · show ((σ.set k none).set k _).set k none = (σ.set k none)
      rw [List.set_set, List.set_set]
    · dsimp only [tYes]
      rw [if_pos rfl]
      refine hs i H _ _ hi e5 (Nat.le_refl _) (fun H' v k1 k2 k3 => ?_)
      refine ⟨xs, k1.lst e3, szL (by omega), xs ++ [v], by rw [List.length_append, e1]; rfl, fun u hu => ?_, upd_same, (e4.trans k1).upd hD _, ?_⟩
      · have tk : Tk H' (upd H' D (.lst (xs ++ [v]))) := (Tk.refl H').lst (k1.lst e3)
        rcases List.mem_append.mp hu with hu | hu
        · exact stab _ _ _ (k1.tk.trans tk) (e2 u hu)
        · rw [List.mem_singleton.mp hu]
          exact stab _ _ _ tk k3
      · rw [Nat.succ_mul, ← Nat.add_assoc]
        exact k2.upd nD.1 nD.2
  · rintro H ⟨xs, e1, e2, e3, e4, e5⟩
    exact hd H xs e1 e2 e3 e4 e5
/-- a list of one-sign texts -/
def Ones (P : Nat → Prop) (v : V) : Prop := ∃ ch, v = .str (S [ch]) ∧ P ch
theorem ones_of {P : Nat → Prop} : ∀ {xs : List V}, (∀ v ∈ xs, Ones P v) → ∃ t : List Nat, xs = ((t.map fun c => S [c]).map V.str) ∧ (∀ c ∈ t, P c)
  | [], _ => ⟨[], rfl, fun _ h => nomatch h⟩
  | v :: xs, h => by
    obtain ⟨t, e, ht⟩ := ones_of (xs := xs) fun u hu => h u (List.mem_cons_of_mem _ hu)
    obtain ⟨ch, e1, e2⟩ := h v (List.mem_cons_self ..)
    refine ⟨ch :: t, by rw [e1, e]; rfl, fun c hc => ?_⟩
    rcases List.mem_cons.mp hc with hc | hc
    · rw [hc]; exact e2
    · exact ht c hc
theorem joinL_ones : ∀ t : List Nat, TL.joinL [] (t.map fun c => [c]) = t
  | [] => rfl
  | [_] => rfl
  | c :: d :: t => by
    show [c] ++ ([] ++ TL.joinL [] ((d :: t).map fun c => [c])) = c :: d :: t
    rw [joinL_ones (d :: t)]
    rfl
theorem join_ones : ∀ t : List Nat, Txt.join (S []) (t.map fun c => S [c]) = S t := fun t => by
  have e : (t.map fun c => S [c]) = (t.map fun c => [c]).map S := by rw [List.map_map]; rfl
  rw [e, join_S]
  exact congrArg S (joinL_ones t)
theorem ones_len : ∀ t : List Nat, ((t.map fun c => S [c]).map (·.length)).sum = t.length
  | [] => rfl
  | c :: t => by
    have := ones_len t
    show 1 + ((t.map fun c => S [c]).map (·.length)).sum = t.length + 1
    omega
theorem ones_bound {t : List Nat} (h : t.length ≤ 1000000) : ((t.map fun c => S [c]).map (·.length)).sum + (t.map fun c => S [c]).length * (S []).length ≤ 16777216 := by
  rw [ones_len]
  show t.length + _ * 0 ≤ 16777216
  omega
/-! ### x.replace of one sign -/

theorem same_new {H0 H : Hp} {p : Addr} (s : Same H0 H) (h : H p = none) (o : HO) : Same H0 (upd H p o) := fun b u e => by
  rw [upd_ne (ne_of_none (s b u e) h)]
  exact s b u e
theorem same_upd {H0 H : Hp} {p : Addr} (s : Same H0 H) (h : H0 p = none) (o : HO) : Same H0 (upd H p o) := fun b u e => by
  rw [upd_ne (ne_of_none e h)]
  exact s b u e
theorem sz_1 : 1 ≤ sizeLine := by decide
theorem sz_2 : 2 ≤ sizeLine := by decide
theorem sz_3 : 3 ≤ sizeLine := by decide
theorem eq1 (c d : Nat) : decide (V.str (S [c]) = V.str (S [d])) = decide (c = d) := by
  by_cases h : c = d
  · subst h
    rw [decide_eq_true rfl, decide_eq_true rfl]
  · rw [decide_eq_false h]
    exact decide_eq_false fun z => h (List.cons.inj (S_inj (V.str.inj z))).1
def isS (c : Nat) : Bool := decide (c ∈ signsL)
def NotStr (K : PySem.W.Frag) (H : Hp) (x : V) : Prop := ∃ t, TyX K H x t ∧ PySem.W.kitOne K t (.type "str") = some false
theorem ifT {A B : Prop} (h : A) : if (true : Bool) = true then A else B := by rw [if_pos rfl]; exact h
theorem ifF {A B : Prop} (h : B) : if (false : Bool) = true then A else B := by rw [if_neg Bool.false_ne_true]; exact h
/-! ### rows of errors -/
/-! ### line tests -/
abbrev Pt : Type := Str × V
def tF (p : Pt) (x y : V) (n : Bool) : List (Str × V) := [("word", .str p.1), ("argument", p.2), ("first", x), ("second", y), ("negated", .bl n)]
def PlAt (C : Addr) (H : Hp) (a : Addr) (p : Pt) (n : Bool) : Prop := ∃ dx, H a = some (.ins C dx (tF p .non .non n))
inductive Tst
  | pl (p : Pt) (n : Bool)
  | rg (p q : Pt) (n : Bool)
def TsAt (C : Addr) (H : Hp) (a : Addr) : Tst → Prop
  | .pl p n => PlAt C H a p n
  | .rg p q n => ∃ dx b c, H a = some (.ins C dx (tF ("from", .non) (.ref b) (.ref c) n)) ∧ PlAt C H b p false ∧ PlAt C H c q false
def Tst.neg : Tst → Bool
  | .pl _ n => n
  | .rg _ _ n => n
def Tst.not : Tst → Tst
  | .pl p _ => .pl p true
  | .rg p q _ => .rg p q true
theorem PlAt.sm {C : Addr} {H H' : Hp} {a : Addr} {p : Pt} {n : Bool} (h : PlAt C H a p n) (s : Same H H') : PlAt C H' a p n := let ⟨dx, e⟩ := h; ⟨dx, s _ _ e⟩
theorem TsAt.sm {C : Addr} {H H' : Hp} {a : Addr} : ∀ {t : Tst}, TsAt C H a t → Same H H' → TsAt C H' a t
  | .pl _ _, h, s => PlAt.sm h s
  | .rg _ _ _, ⟨dx, b, c, e, h1, h2⟩, s => ⟨dx, b, c, s _ _ e, h1.sm s, h2.sm s⟩
inductive OkP : Pt → Prop
  | wd {k : Str} {t : List Nat} (h : k = "begins" ∨ k = "ends" ∨ k = "has" ∨ k = "is") (h1 : t.length ≤ 6) (h2 : ∀ c ∈ t, c ∈ signsL ∧ c ≠ 10) : OkP (k, .str (S t))
  | sh {n : Nat} (h : n ≤ 40) : OkP ("short", .int (n : Int))
  | nu {n : Nat} (h1 : 1 ≤ n) (h2 : n ≤ 6) : OkP ("number", .int (n : Int))
  | ba {k : Str} (h : k = "all" ∨ k = "last") : OkP (k, .non)
def OkT : Tst → Prop
  | .pl p _ => OkP p
  | .rg p q _ => OkP p ∧ OkP q
theorem OkP.nf {p : Pt} (h : OkP p) : p.1 ≠ "from" := by
  cases h with
  | @wd k t h _ _ => exact (show k ≠ "from" by rcases h with h | h | h | h <;> rw [h] <;> decide)
  | sh h => exact (show ("short" : Str) ≠ "from" by decide)
  | nu h1 h2 => exact (show ("number" : Str) ≠ "from" by decide)
  | @ba k h => exact (show k ≠ "from" by rcases h with h | h <;> rw [h] <;> decide)
/-! ### the law's tuples -/
def cT (p : Pt) (x y : V) (n : Bool) : List V := [.str p.1, p.2, x, y, .bl n]
def CkAt (H : Hp) (a : Addr) : Tst → Prop
  | .pl p n => H a = some (.tup (cT p .non .non n))
  | .rg p q n => ∃ b c, H a = some (.tup (cT ("from", .non) (.ref b) (.ref c) n)) ∧ H b = some (.tup (cT p .non .non false)) ∧ H c = some (.tup (cT q .non .non false))
theorem CkAt.tk {H H' : Hp} {a : Addr} : ∀ {t : Tst}, CkAt H a t → Tk H H' → CkAt H' a t
  | .pl _ _, h, s => s _ _ h
  | .rg _ _ _, ⟨b, c, e, h1, h2⟩, s => ⟨b, c, s _ _ e, s _ _ h1, s _ _ h2⟩
theorem CkAt.sm {H H' : Hp} {a : Addr} {t : Tst} (h : CkAt H a t) (s : Same H H') : CkAt H' a t := h.tk (Ks.of s).tk
/-! ### == of tests, as of the tuples -/
def vD : V → PyData
  | .int i => .int i
  | .str x => .str x
  | .bl b => .bool b
  | _ => .none
def cD (p : Pt) (x y : PyData) (n : Bool) : PyData := .tuple [.str p.1, vD p.2, x, y, .bool n]
def tD : Tst → PyData
  | .pl p n => cD p .none .none n
  | .rg p q n => cD ("from", .non) (cD p .none .none false) (cD q .none .none false) n
def eqT (t u : Tst) : Bool := PyData.eqv (tD t) (tD u)
def EqR (C : Addr) (a b : Addr) (r : Bool) (H : Hp) : Prop := ∃ t u, TsAt C H a t ∧ TsAt C H b u ∧ OkT t ∧ OkT u ∧ r = eqT t u
def EqP (C : Addr) (a b : Addr) (r : Bool) (H : Hp) : Prop := ∃ p q n m, PlAt C H a p n ∧ PlAt C H b q m ∧ OkP p ∧ OkP q ∧ r = eqT (.pl p n) (.pl q m)
/-! ### truths -/
def plT (p : Pt) (ls : List Str) (i : Nat) : Bool :=
  if p.1 = "begins" then (match p.2 with | .str y => Txt.startswith (ls.getD i "") y | _ => false)
  else if p.1 = "ends" then (match p.2 with | .str y => Txt.endswith (ls.getD i "") y | _ => false)
  else if p.1 = "has" then (match p.2 with | .str y => !(Builtin.Str.occurrences (ls.getD i "") y 0 (ls.getD i "").length 1).isEmpty | _ => false)
  else if p.1 = "is" then decide (V.str (ls.getD i "") = p.2)
  else if p.1 = "short" then (match p.2 with | .int n => decide (((ls.getD i "").length : Int) ≤ n) | _ => false)
  else if p.1 = "number" then decide (V.int ((i : Int) + 1) = p.2)
  else if p.1 = "last" then decide (V.int ((i : Int) + 1) = V.int (ls.length : Int))
  else true
def plTs (p : Pt) (ls : List Str) : List Bool := (List.range ls.length).map (plT p ls)
def rgT : Bool → List Bool → List Bool → List Bool
  | ins, b :: bs, e :: es => (ins || b) :: rgT (if ins then !e else b) bs es
  | _, _, _ => []
def tT (ls : List Str) : Tst → List Bool
  | .pl p n => (plTs p ls).map (· != n)
  | .rg p q n => (rgT false (plTs p ls) (plTs q ls)).map (· != n)
def LsAt (K : PySem.W.Frag) (H : Hp) (a : Addr) (ls : List Str) : Prop := (SqL K H a (ls.map V.str) ∨ SqT K H a (ls.map V.str)) ∧ ls.length ≤ 1000 ∧ ∀ l ∈ ls, l.length ≤ 1000
theorem LsAt.ks {K : PySem.W.Frag} {H H' : Hp} {a : Addr} {ls : List Str} (h : LsAt K H a ls) (k : Ks H H') : LsAt K H' a ls := ⟨h.1.elim (fun x => .inl (k.seq x)) fun x => .inr (k.seqT x), h.2⟩
/-! ### the program's promises -/
def sp_isText (K : PySem.W.Frag) : Sp := fun vs H Q _ => ∃ x, vs = [x] ∧ ((∃ l, x = .str (S l) ∧ l.length ≤ 100000 ∧ ∀ H', Same H H' → Ks H H' → Q (.bl (l.all isS)) H') ∨ (NotStr K H x ∧ Q (.bl false) H))
def sp_isPatch (K : PySem.W.Frag) : Sp := fun vs H Q _ => ∃ x, vs = [x] ∧ ((∃ l, x = .str (S l) ∧ l.length ≤ 100000 ∧ ∀ H', Same H H' → Q (.bl (l.all isS && decide (l.length ≤ 6))) H') ∨ (NotStr K H x ∧ Q (.bl false) H))
def lw (l : List Nat) : Bool := (l.all isS && decide (l.length ≤ 6)) && !decide (10 ∈ l)
def sp_isLineWord (K : PySem.W.Frag) : Sp := fun vs H Q _ => ∃ x, vs = [x] ∧ ((∃ l, x = .str (S l) ∧ l.length ≤ 100000 ∧ ∀ H', Same H H' → Q (.bl (lw l)) H') ∨ (NotStr K H x ∧ Q (.bl false) H))
/-- what isinstance says of a value and int, bool -/
def Whole (K : PySem.W.Frag) (H : Hp) (x : V) (r : Bool) : Prop := ∃ (t : Value) (b1 b2 : Bool), TyX K H x t ∧ PySem.W.kitOne K t (.type "int") = some b1 ∧ PySem.W.kitOne K t (.type "bool") = some b2 ∧ r = (b1 && !b2)
def sp_isWhole (K : PySem.W.Frag) : Sp := fun vs H Q _ => ∃ x r, vs = [x] ∧ Whole K H x r ∧ Q (.bl r) H
def sp_isWithin (K : PySem.W.Frag) : Sp := fun vs H Q _ => ∃ (x : V) (a : Addr) (lo hi : Int), vs = [x, .ref a] ∧ SqT K H a [.int lo, .int hi] ∧ ((Whole K H x false ∧ Q (.bl false) H) ∨ ∃ i : Int, x = .int i ∧ Q (.bl (decide (lo ≤ i) && decide (i ≤ hi))) H)
def sp_LineTest_init (C : Addr) : Sp := fun vs H Q _ => ∃ (a dx pa : Addr) (k : Str) (g x y : V) (n : Bool), vs = [.ref a, .str k, g, .ref pa, .bl n] ∧ H a = some (.ins C dx []) ∧ H pa = some (.tup [x, y]) ∧ Q .non (upd H a (.ins C dx (tF (k, g) x y n)))
def sp_LineTest_eq (C : Addr) : Sp := spEqI (EqR C)
def sp_LineTest_eqP (C : Addr) : Sp := spEqI (EqP C)
def trPost (bs : List Bool) (H : Hp) (Q : VK) : Prop := ∀ (H' : Hp) (tp : Addr), Same H H' → H' tp = some (.tup (bs.map V.bl)) → Q (.ref tp) H'
def sp_LineTest_truths (K : PySem.W.Frag) (C : Addr) : Sp := fun vs H Q _ => ∃ (a la : Addr) (t : Tst) (ls : List Str), vs = [.ref a, .ref la] ∧ TsAt C H a t ∧ OkT t ∧ LsAt K H la ls ∧ trPost (tT ls t) H Q
def sp_LineTest_truthsP (K : PySem.W.Frag) (C : Addr) : Sp := fun vs H Q _ => ∃ (a la : Addr) (p : Pt) (n : Bool) (ls : List Str), vs = [.ref a, .ref la] ∧ PlAt C H a p n ∧ OkP p ∧ LsAt K H la ls ∧ trPost (tT ls (.pl p n)) H Q
def sp_plainTruth (K : PySem.W.Frag) (C : Addr) : Sp := fun vs H Q _ => ∃ (a la : Addr) (p : Pt) (n : Bool) (ls : List Str) (i : Nat), vs = [.ref a, .ref la, .int (i : Int)] ∧ PlAt C H a p n ∧ OkP p ∧ LsAt K H la ls ∧ i < ls.length ∧ Q (.bl (plT p ls i)) H
def sp_rangeTruths (K : PySem.W.Frag) : Sp := fun vs H Q _ => ∃ (x y : Addr) (bs es : List Bool), vs = [.ref x, .ref y] ∧ H x = some (.tup (bs.map V.bl)) ∧ H y = some (.tup (es.map V.bl)) ∧ bs.length = es.length ∧ bs.length ≤ 1000 ∧ ∀ (H' : Hp) (l : Addr), Same H H' → H' l = some (.lst ((rgT false bs es).map V.bl)) → Q (.ref l) H'
/-- the errors of making -/
inductive Er
  | word (w : Str)
  | num (w : Str) (v : V)
def ErAt (CB CN : Addr) (H : Hp) (e : Er) (E : XK) : Prop := ∀ (d : Addr) (H' : Hp), Same H H' → (match e with
  | .word w => H' d = some (.xd [("what", .str w)])
  | .num w v => H' d = some (.xd [("number", v), ("what", .str w)])) → E (match e with | .word _ => .ref CB | .num _ _ => .ref CN) (some d) H'
def isW (k : Str) : Prop := k = "begins" ∨ k = "ends" ∨ k = "has" ∨ k = "is"
/-- what plain_test says of these arguments: well, or how it refuses -/
inductive PtR (K : PySem.W.Frag) (H : Hp) : V → V → Option Er → Prop
  | ok {p : Pt} (h : OkP p) : PtR K H (.str p.1) p.2 none
  | noText {v g : V} (h : NotStr K H v) : PtR K H v g (some (.word "test"))
  | noTest {x : Str} {g : V} (h : inV (.str x) [.str "begins", .str "ends", .str "has", .str "is", .str "short", .str "number", .str "all", .str "last"] = false) : PtR K H (.str x) g (some (.word "test"))
  | noWord {k : Str} {g : V} (h : isW k) (h2 : NotStr K H g ∨ ∃ l, g = .str (S l) ∧ l.length ≤ 100000 ∧ lw l = false) : PtR K H (.str k) g (some (.word "argument"))
  | noNum {k : Str} {g : V} {lo hi : Int} (h : (k = "short" ∧ lo = 0 ∧ hi = 40) ∨ (k = "number" ∧ lo = 1 ∧ hi = 6)) (h2 : Whole K H g false ∨ ∃ i : Int, g = .int i ∧ (i < lo ∨ hi < i)) : PtR K H (.str k) g (some (.num k g))
  | noBare {k : Str} {g : V} (h : k = "all" ∨ k = "last") (h2 : g ≠ .non) : PtR K H (.str k) g (some (.word "argument"))
def sp_plainTest (K : PySem.W.Frag) (CL CB CN : Addr) : Sp := fun vs H Q E => ∃ x g o, vs = [x, g] ∧ PtR K H x g o ∧ (o = none → ∀ (H' : Hp) (a : Addr) (k : Str), x = .str k → Same H H' → PlAt CL H' a (k, g) false → Q (.ref a) H') ∧ ∀ e, o = some e → ErAt CB CN H e E
/-- no plain test at all -/
def NoPl (K : PySem.W.Frag) (CL : Addr) (H : Hp) (x : V) : Prop := (∃ t, TyX K H x t ∧ PySem.W.kitOne K t (.ref CL) = some false) ∨ ∃ a dx p u v n, x = .ref a ∧ H a = some (.ins CL dx (tF p u v n)) ∧ (p.1 = "from" ∨ n = true)
def sp_isPlain (K : PySem.W.Frag) (CL : Addr) : Sp := fun vs H Q _ => ∃ x, vs = [x] ∧ ((NoPl K CL H x ∧ Q (.bl false) H) ∨ ∃ a dx p u v, x = .ref a ∧ H a = some (.ins CL dx (tF p u v false)) ∧ p.1 ≠ "from" ∧ Q (.bl true) H)
def sp_rangeTest (K : PySem.W.Frag) (CL CB CN : Addr) : Sp := fun vs H Q E => ∃ x y, vs = [x, y] ∧
  ((NoPl K CL H x ∧ ErAt CB CN H (.word "first") E) ∨ ∃ a dx p u v, x = .ref a ∧ H a = some (.ins CL dx (tF p u v false)) ∧ p.1 ≠ "from" ∧
    ((NoPl K CL H y ∧ ErAt CB CN H (.word "second") E) ∨ ∃ b dx' p' u' v', y = .ref b ∧ H b = some (.ins CL dx' (tF p' u' v' false)) ∧ p'.1 ≠ "from" ∧
      ∀ (H' : Hp) (c dz : Addr), Same H H' → H' c = some (.ins CL dz (tF ("from", .non) (.ref a) (.ref b) false)) → Q (.ref c) H'))
def sp_otherTest (K : PySem.W.Frag) (CL CB CN : Addr) : Sp := fun vs H Q E => ∃ x, vs = [x] ∧
  ((((∃ t, TyX K H x t ∧ PySem.W.kitOne K t (.ref CL) = some false) ∨ ∃ a dx p u v, x = .ref a ∧ H a = some (.ins CL dx (tF p u v true))) ∧ ErAt CB CN H (.word "test") E) ∨
    ∃ a dx p u v, x = .ref a ∧ H a = some (.ins CL dx (tF p u v false)) ∧ ∀ (H' : Hp) (c dz : Addr), Same H H' → H' c = some (.ins CL dz (tF p u v true)) → Q (.ref c) H')
/-- the class of tests: its own facts -/
structure Ca (K : PySem.W.Frag) (CL : Addr) : Prop where
  i : C8.InsC K CL
  a1 : NoAttr K CL "word"
  a2 : NoAttr K CL "argument"
  a3 : NoAttr K CL "first"
  a4 : NoAttr K CL "second"
  a5 : NoAttr K CL "negated"
structure Co (P : Program) (w : World) (K : PySem.W.Frag) (mg : Str → Option Value) (base : Heap) (CL : Addr) : Prop where
  g_LineTest : mg "LineTest" = some (.ref CL)
  m_LineTest : C8.Mak P w K mg base 1 "LineTest" CL (sp_LineTest_init CL) []
  i : C8.InsC K CL
  a1 : NoAttr K CL "word"
  a2 : NoAttr K CL "argument"
  a3 : NoAttr K CL "first"
  a4 : NoAttr K CL "second"
  a5 : NoAttr K CL "negated"
structure Eqc (P : Program) (w : World) (K : PySem.W.Frag) (mg : Str → Option Value) (base : Heap) (k : Nat) (C : Addr) (R : Addr → Addr → Bool → Hp → Prop) : Prop where
  ex : ∃ (f : Addr) (fd : FuncData) (ps : List Str), OwnC K C f ∧ FnOk P w K mg base C8.CX0 k f fd ps (spEqI R) ∧ Binds K fd ps []
section
variable {X : Cx} {C : Addr} {R : Addr → Addr → Bool → Hp → Prop} {k j : Nat}
theorem op_eqC (c : Eqc X.prog X.w X.K X.mg X.base k C R) (hr : Room j X.A) (hj : k ≤ j) : OpR X (compareOp .Eq) (rEqI C false R) := by
  obtain ⟨f, fd, ps, O, F, b⟩ := c.ex
  exact op_eqI O F b hr hj
theorem op_eqI2 (c : Eqc X.prog X.w X.K X.mg X.base k C R) (hr : Room j X.A) (hj : k ≤ j) {r : R2} (hu : OpR X (compareOp .Eq) r) : OpR X (compareOp .Eq) (fun x y H Q => r x y H Q ∨ rEqI C false R x y H Q) := op_alt hu (op_eqC c hr hj)
theorem op_neC (c : Eqc X.prog X.w X.K X.mg X.base k C R) (hr : Room j X.A) (hj : k + 1 ≤ j) : OpR X (compareOp .NotEq) (rEqI C true R) := by
  obtain ⟨f, fd, ps, O, F, b⟩ := c.ex
  exact op_neI O F b hr hj
end
/-- the signs of the document but the newline, the quote mark: by their codes -/
def isSg (c : Nat) : Bool := c == 10 || (32 ≤ c && c ≤ 126 && c != 37)
def esc1 (c : Nat) : List Nat := if c = 92 then [92, 92] else if c = 34 then [92, 34] else if c = 10 then [92, 110] else [c]
def quoteL (w : List Nat) : List Nat := 34 :: (w.flatMap esc1 ++ [34])
def sp_quoted : Sp := fun vs H Q _ => ∃ w : List Nat, vs = [.str (S w)] ∧ w.length ≤ 1000 ∧ Q (.str (S (quoteL w))) H
def rep1 (c : Nat) (z : List Nat) (d : Nat) : List Nat := if d = c then z else [d]
theorem spl_ne (c : Nat) : ∀ (l acc : List Nat), ∃ p r, TL.spl [c] 0 acc l = p :: r
  | [], acc => ⟨acc, [], rfl⟩
  | d :: l, acc => by
    by_cases e : TL.pre [c] (d :: l) = true
    · exact ⟨acc, _, TL.spl_hit e⟩
    · rw [TL.spl_miss (Bool.eq_false_iff.mpr e)]
      exact spl_ne c l _
theorem join_spl (c : Nat) (z : List Nat) : ∀ (l acc : List Nat), TL.joinL z (TL.spl [c] 0 acc l) = acc ++ l.flatMap (rep1 c z)
  | [], acc => (List.append_nil acc).symm
  | d :: l, acc => by
    have hp : TL.pre [c] (d :: l) = decide (d = c) := by
      show ([d] == [c]) = _
      by_cases e : d = c
      · subst e; simp
      · simp [e]
    rw [List.flatMap_cons]
    by_cases e : d = c
    · rw [TL.spl_hit (by rw [hp]; exact decide_eq_true e)]
      obtain ⟨p, r, h⟩ := spl_ne c l []
      have ih := join_spl c z l []
      show TL.joinL z (acc :: TL.spl [c] 0 [] l) = _
      rw [h] at ih ⊢
      show acc ++ (z ++ TL.joinL z (p :: r)) = _
      rw [ih]
      unfold rep1
      rw [if_pos e]
      rfl
    · rw [TL.spl_miss (by rw [hp]; exact decide_eq_false e), join_spl c z l (acc ++ [d])]
      unfold rep1
      rw [if_neg e, List.append_assoc]
theorem repl1 {c : Nat} (hc : c < 256) (z l : List Nat) : Txt.replace (S l) (S [c]) (S z) = S (l.flatMap (rep1 c z)) := by
  have e := StrLaws.replace_one (S l) (S z) c
  have e2 : Txt.split (S l) (S [c]) = (TL.spl [c] 0 [] l).map S := split_S (by simp) (by simp [hc])
  show Txt.replace (S l) ⟨#[c]⟩ (S z) = _
  rw [e]
  show Str.join (S z) (Txt.split (S l) (S [c])) = _
  rw [e2]
  refine TL.ext_tl ?_
  rw [TL.tl_join, map_S_tl]
  exact join_spl c z l []
theorem flat_le {f : Nat → List Nat} {k : Nat} (h : ∀ c, (f c).length ≤ k) : ∀ l : List Nat, (l.flatMap f).length ≤ k * l.length
  | [] => Nat.zero_le _
  | c :: l => by
    have := flat_le h l
    have := h c
    rw [List.flatMap_cons, List.length_append, List.length_cons, Nat.mul_succ]
    omega
theorem rep1_le (c : Nat) (a b : Nat) (d : Nat) : (rep1 c [a, b] d).length ≤ 2 := by
  unfold rep1
  split
  · exact Nat.le_refl _
  · show 1 ≤ 2; decide
theorem esc_three (w : List Nat) : ((w.flatMap (rep1 92 [92, 92])).flatMap (rep1 34 [92, 34])).flatMap (rep1 10 [92, 110]) = w.flatMap esc1 := by
  induction w with
  | nil => rfl
  | cons c w ih =>
    rw [List.flatMap_cons, List.flatMap_append, List.flatMap_append, ih, List.flatMap_cons]
    congr 1
    unfold esc1
    by_cases h1 : c = 92
    · subst h1; rfl
    · by_cases h2 : c = 34
      · subst h2; rfl
      · by_cases h3 : c = 10
        · subst h3; rfl
        · rw [if_neg h1, if_neg h2, if_neg h3]
          have e1 : rep1 92 [92, 92] c = [c] := if_neg h1
          have e2 : rep1 34 [92, 34] c = [c] := if_neg h2
          have e3 : rep1 10 [92, 110] c = [c] := if_neg h3
          rw [e1]
          show (rep1 34 [92, 34] c ++ []).flatMap (rep1 10 [92, 110]) = [c]
          rw [e2]
          show rep1 10 [92, 110] c ++ [] = [c]
          rw [e3]
          rfl
theorem esc_len (w : List Nat) : (w.flatMap esc1).length ≤ 2 * w.length := flat_le (fun c => by
  unfold esc1
  split
  · exact Nat.le_refl _
  · split
    · exact Nat.le_refl _
    · split
      · exact Nat.le_refl _
      · show 1 ≤ 2; decide) w
theorem quote_len (w : List Nat) : (quoteL w).length ≤ 2 * w.length + 2 := by
  have := esc_len w
  show (w.flatMap esc1 ++ [34]).length + 1 ≤ _
  rw [List.length_append]
  show (w.flatMap esc1).length + 1 + 1 ≤ _
  omega
abbrev W3 : Type := Str × V × Nat
def w3V (w : W3) : List V := [.str w.1, w.2.1, .int (w.2.2 : Int)]
def runEnd (sg l : List Nat) (i : Nat) : Nat := i + ((l.drop i).takeWhile (fun c => decide (c ∈ sg))).length
def numAt (l : List Nat) (i : Nat) : W3 :=
  if runEnd figL l i - i > 1 ∧ l[i]? = some 48 then ("bad number", .int ((i : Int) + 2), runEnd figL l i)
  else if runEnd figL l i - i > 9 then ("bad number", .int ((i : Int) + 9 + 1), runEnd figL l i)
  else ("number", .int ((NumText.digitsVal ((l.drop i).take (runEnd figL l i - i)) : Nat) : Int), runEnd figL l i)
def mean (c : Nat) : Option Nat := if c = 34 then some 34 else if c = 92 then some 92 else if c = 110 then some 10 else none
def qRead (a0 : Nat) : List Nat → Nat → List Nat → W3
  | [], pl, _ => ("bad quoted", .int ((a0 : Int) + 1), pl)
  | c :: r, pl, acc =>
    if c = 34 then ("quoted", .str (S acc), pl + 1)
    else if c = 92 then (match r with
      | [] => ("bad quoted", .int ((pl : Int) + 1), pl)
      | e :: r' => match mean e with
        | none => ("bad quoted", .int ((pl : Int) + 1), pl)
        | some m => qRead a0 r' (pl + 2) (acc ++ [m]))
    else if c ∈ signsL then qRead a0 r (pl + 1) (acc ++ [c])
    else ("bad quoted", .int ((pl : Int) + 1), pl)
def wAt (l : List Nat) (i : Nat) : W3 :=
  match l[i]? with
  | none => ("", .non, 0)
  | some c =>
    if c ∈ lowL then ("name", .str (S ((l.drop i).take (runEnd lowL l i - i))), runEnd lowL l i)
    else if c ∈ figL then numAt l i
    else if c = 34 then qRead i (l.drop (i + 1)) (i + 1) []
    else if c = 40 ∨ c = 41 then ("bracket", .str (S [c]), i + 1)
    else ("bad sign", .int ((i : Int) + 1), i + 1)
def isBad (k : Str) : Bool := Txt.startswith k "bad"
inductive Lex (l : List Nat) : Nat → List W3 → Prop
  | done {i : Nat} (h : l.length ≤ i) : Lex l i []
  | blank {i : Nat} {ws : List W3} (h : l[i]? = some 32) (r : Lex l (i + 1) ws) : Lex l i ws
  | word {i c : Nat} {ws : List W3} (h : l[i]? = some c) (n : c ≠ 32) (b : isBad (wAt l i).1 = false) (r : Lex l (wAt l i).2.2 ws) : Lex l i (((wAt l i).1, (wAt l i).2.1, i + 1) :: ws)
  | bad {i c : Nat} (h : l[i]? = some c) (n : c ≠ 32) (b : isBad (wAt l i).1 = true) : Lex l i [((wAt l i).1, (wAt l i).2.1, i + 1)]
theorem runEnd_step {sg l : List Nat} {i c : Nat} (h : l[i]? = some c) (hc : c ∈ sg) : runEnd sg l (i + 1) = runEnd sg l i := by
  obtain ⟨hi, e⟩ := List.getElem?_eq_some_iff.mp h
  unfold runEnd
  rw [List.drop_eq_getElem_cons hi, e, List.takeWhile_cons_of_pos (by simpa using hc), List.length_cons]
  omega
theorem runEnd_stop {sg l : List Nat} {i c : Nat} (h : l[i]? = some c) (hc : ¬ c ∈ sg) : runEnd sg l i = i := by
  obtain ⟨hi, e⟩ := List.getElem?_eq_some_iff.mp h
  unfold runEnd
  rw [List.drop_eq_getElem_cons hi, e, List.takeWhile_cons_of_neg (by simpa using hc)]
  rfl
theorem runEnd_end {sg l : List Nat} {i : Nat} (h : l.length ≤ i) : runEnd sg l i = i := by
  unfold runEnd
  rw [List.drop_eq_nil_of_le h]
  rfl
theorem runEnd_ge (sg l : List Nat) (i : Nat) : i ≤ runEnd sg l i := Nat.le_add_right _ _
theorem runEnd_le {sg l : List Nat} {i : Nat} (h : i ≤ l.length) : runEnd sg l i ≤ l.length := by
  unfold runEnd
  have h1 : ((l.drop i).takeWhile (fun c => decide (c ∈ sg))).length ≤ (l.drop i).length := (List.takeWhile_prefix _).length_le
  rw [List.length_drop] at h1
  omega
theorem slice2 {a : List Nat} {i j : Nat} (h : i ≤ j) : Txt.slice (S a) (some (i : Int)) (some (j : Int)) = S ((a.drop i).take (j - i)) := by
  rw [← C8.cutS_slice]
  unfold cutS
  rw [S_len, HT.sIx_nat, HT.sIx_nat]
  show S ((a.drop (min i a.length)).take (min j a.length - min i a.length)) = _
  congr 1
  by_cases hi : i ≤ a.length
  · rw [Nat.min_eq_left hi]
    by_cases hj : j ≤ a.length
    · rw [Nat.min_eq_left hj]
    · rw [Nat.min_eq_right (by omega), List.take_of_length_le (by rw [List.length_drop]; omega), List.take_of_length_le (by rw [List.length_drop]; omega)]
  · rw [List.drop_eq_nil_of_le (by omega), List.drop_eq_nil_of_le (by omega), List.take_nil, List.take_nil]
def sp_runEnd : Sp := fun vs H Q _ => ∃ (l sg : List Nat) (i : Nat), vs = [.str (S l), .int (i : Int), .str (S sg)] ∧ l.length ≤ 100000 ∧ Q (.int ((runEnd sg l i : Nat) : Int)) H
def w3Post (w : W3) (H : Hp) (Q : VK) : Prop := ∀ (H' : Hp) (a : Addr), Same H H' → H' a = some (.tup (w3V w)) → Q (.ref a) H'
def sp_numberAt : Sp := fun vs H Q _ => ∃ (l : List Nat) (i c : Nat), vs = [.str (S l), .int (i : Int)] ∧ l.length ≤ 100000 ∧ l[i]? = some c ∧ c ∈ figL ∧ w3Post (numAt l i) H Q
def sp_quotedAt : Sp := fun vs H Q _ => ∃ (l : List Nat) (i : Nat), vs = [.str (S l), .int (i : Int)] ∧ l.length ≤ 100000 ∧ i < l.length ∧ w3Post (qRead i (l.drop (i + 1)) (i + 1) []) H Q
def sp_wordAt : Sp := fun vs H Q _ => ∃ (l : List Nat) (i : Nat), vs = [.str (S l), .int (i : Int)] ∧ l.length ≤ 100000 ∧ i < l.length ∧ w3Post (wAt l i) H Q
def sp_lineWords : Sp := fun vs H Q _ => ∃ (l : List Nat), vs = [.str (S l)] ∧ l.length ≤ 100000 ∧ ∀ (H' : Hp) (t : Addr) (as : List Addr) (ws : List W3), Same H H' → H' t = some (.tup (as.map V.ref)) → Paired (fun a w => H' a = some (.tup (w3V w))) as ws → Lex l 0 ws → Q (.ref t) H'
def sp_quotedText : Sp := fun vs H Q _ => ∃ w : List Nat, vs = [.str (S w)] ∧ w.length ≤ 1000 ∧ ∀ H', Same H H' → Q (.str (S (quoteL w))) H'
theorem tw_all {p : Nat → Bool} {l : List Nat} {c : Nat} (h : c ∈ l.takeWhile p) : p c = true := List.all_eq_true.mp List.all_takeWhile c h
theorem qRead_cons (a0 c : Nat) (r : List Nat) (pl : Nat) (acc : List Nat) : qRead a0 (c :: r) pl acc = ((if c = 34 then ("quoted", V.str (S acc), pl + 1)
    else if c = 92 then (match r with
      | [] => ("bad quoted", V.int ((pl : Int) + 1), pl)
      | e :: r' => match mean e with
        | none => ("bad quoted", V.int ((pl : Int) + 1), pl)
        | some m => qRead a0 r' (pl + 2) (acc ++ [m]))
    else if c ∈ signsL then qRead a0 r (pl + 1) (acc ++ [c])
    else ("bad quoted", V.int ((pl : Int) + 1), pl)) : W3) := by
  conv => lhs; unfold qRead
inductive GoodW : Str → V → List Nat → Prop
  | name {t : List Nat} (h1 : 1 ≤ t.length) (h2 : t.length ≤ 8) (h3 : ∀ c ∈ t, c ∈ lowL) : GoodW "name" (.str (S t)) t
  | num {n : Nat} (h : n < 1000000000) : GoodW "number" (.int (n : Int)) (TL.numL n)
  | quo {w : List Nat} (h1 : w.length ≤ 12) (h2 : ∀ c ∈ w, c ∈ signsL) : GoodW "quoted" (.str (S w)) (quoteL w)
  | bra {c : Nat} (h : c ∈ [40, 41]) : GoodW "bracket" (.str (S [c])) [c]
def aheadL (w : List Nat) : List Nat := 34 :: w.flatMap esc1
inductive BadW : Str → Int → List Nat → Prop
  | zero {n : Nat} (h : n < 1000) : BadW "bad number" 1 (48 :: TL.numL n)
  | many {d j : Nat} (h1 : 1 ≤ d) (h2 : d ≤ 9) (h3 : j < 3) : BadW "bad number" 9 (TL.numL d ++ [48, 49, 50, 51, 52, 53, 54, 55, 56] ++ repL j [57])
  | esc {w : List Nat} {e : Nat} (h1 : w.length ≤ 5) (h2 : ∀ c ∈ w, c ∈ signsL) (h3 : e ∈ [116, 97, 98, 78, 32, 48, 39, 40]) : BadW "bad quoted" (((aheadL w).length : Nat) : Int) (aheadL w ++ [92, e, 110, 34])
  | tab {w : List Nat} (h1 : w.length ≤ 5) (h2 : ∀ c ∈ w, c ∈ signsL) : BadW "bad quoted" (((aheadL w).length : Nat) : Int) (aheadL w ++ [9, 34])
  | opn {u : List Nat} (h1 : u.length ≤ 5) (h2 : ∀ c ∈ u, c ∈ [97, 32, 48, 110, 40, 41, 126, 59]) : BadW "bad quoted" 0 (34 :: u)
  | back {u : List Nat} (h1 : u.length ≤ 5) (h2 : ∀ c ∈ u, c ∈ [97, 32, 48, 110, 40, 41, 126, 59]) : BadW "bad quoted" (((34 :: u).length : Nat) : Int) (34 :: u ++ [92])
  | sign {c : Nat} (h : c ∈ [65, 90, 59, 95, 45, 39, 126, 61, 44, 9, 92, 91, 93, 96]) : BadW "bad sign" 0 [c]
def RW (v : V) (H : Hp) : Prop := ∃ (a : Addr) (k : Str) (x : V) (t : List Nat), v = .ref a ∧ H a = some (.tup [.str k, x, .str (S t)]) ∧ GoodW k x t
theorem RW.stab (v : V) (H H' : Hp) (s : Tk H H') (h : RW v H) : RW v H' := by
  obtain ⟨a, k, x, t, e, h1, h2⟩ := h
  exact ⟨a, k, x, t, e, s _ _ h1, h2⟩
theorem log_small {n : Nat} (h : n < 2000000000) : ((n : Int)).natAbs.log2 < 1920 := by
  rw [Int.natAbs_natCast]
  exact Nat.lt_trans (PySem.Flt.log2_lt_of (show 0 < 31 by decide) (by omega)) (by decide)
def blanks (n : Nat) : List Nat := repL n [32]
theorem blanks_len (n : Nat) : (blanks n).length = n := by
  unfold blanks
  rw [rep_len]
  exact Nat.mul_one n
theorem blanks_add (a b : Nat) : blanks a ++ blanks b = blanks (a + b) := by
  induction a with
  | zero => rw [Nat.zero_add]; rfl
  | succ a ih =>
    rw [Nat.succ_add]
    show 32 :: (blanks a ++ blanks b) = 32 :: blanks (a + b)
    rw [ih]
def asm : List (Nat × List Nat) → List Nat
  | [] => []
  | (g, t) :: r => blanks g ++ (t ++ asm r)
def cols (n : Nat) : List (Nat × List Nat) → List Nat
  | [] => []
  | (g, t) :: r => (n + g + 1) :: cols (n + g + t.length) r
def clash (a b : List Nat) : Prop := ∃ c d, a.getLast? = some c ∧ b.head? = some d ∧ ((c ∈ lowL ∧ d ∈ lowL) ∨ (c ∈ figL ∧ d ∈ figL))
def Gaps : List Nat → List (Nat × List Nat) → Prop
  | _, [] => True
  | pv, (g, t) :: r => (clash pv t → 1 ≤ g) ∧ Gaps t r
def lastT : List Nat → List (Nat × List Nat) → List Nat
  | pv, [] => pv
  | _, (_, t) :: r => lastT t r
theorem asm_snoc (g : Nat) (t : List Nat) : ∀ is : List (Nat × List Nat), asm (is ++ [(g, t)]) = asm is ++ blanks g ++ t
  | [] => by show blanks g ++ (t ++ []) = [] ++ blanks g ++ t; rw [List.append_nil]; rfl
  | (a, u) :: r => by
    show blanks a ++ (u ++ asm (r ++ [(g, t)])) = blanks a ++ (u ++ asm r) ++ blanks g ++ t
    rw [asm_snoc g t r]
    simp only [List.append_assoc]
theorem cols_snoc (g : Nat) (t : List Nat) : ∀ (is : List (Nat × List Nat)) (n : Nat), cols n (is ++ [(g, t)]) = cols n is ++ [n + (asm is).length + g + 1]
  | [], n => rfl
  | (a, u) :: r, n => by
    show (n + a + 1) :: cols (n + a + u.length) (r ++ [(g, t)]) = (n + a + 1) :: (cols (n + a + u.length) r ++ [n + (blanks a ++ (u ++ asm r)).length + g + 1])
    rw [cols_snoc g t r, List.length_append, List.length_append, blanks_len]
    congr 3
    omega
theorem gaps_snoc (g : Nat) (t : List Nat) : ∀ (is : List (Nat × List Nat)) (pv : List Nat), Gaps pv is → (clash (lastT pv is) t → 1 ≤ g) → Gaps pv (is ++ [(g, t)])
  | [], pv, _, h => ⟨h, trivial⟩
  | (a, u) :: r, pv, h, h2 => ⟨h.1, gaps_snoc g t r u h.2 h2⟩
theorem lastT_snoc (g : Nat) (t : List Nat) : ∀ (is : List (Nat × List Nat)) (pv : List Nat), lastT pv (is ++ [(g, t)]) = t
  | [], _ => rfl
  | (_, u) :: r, _ => lastT_snoc g t r u
theorem cols_len : ∀ (is : List (Nat × List Nat)) (n : Nat), (cols n is).length = is.length
  | [], _ => rfl
  | (_, _) :: r, _ => congrArg (· + 1) (cols_len r _)
def sp_lineOfWords : Sp := fun vs H Q _ => ∃ (p c lw : Addr) (m : Nat) (ts : List (List Nat)), vs = [.ref p, .ref lw] ∧ PenAt H p c m ∧ m < 700000 ∧ H lw = some (.lst (ts.map fun t => V.str (S t))) ∧ ts.length ≤ 9 ∧ (∀ t ∈ ts, t ≠ [] ∧ t.length ≤ 30) ∧
  ∀ (H' : Hp) (a cl : Addr) (is : List (Nat × List Nat)) (e : Nat), Ks H H' → PenAt H' p c (m + 20) → H' a = some (.tup [.str (S (asm is ++ blanks e)), .ref cl]) → H' cl = some (.lst ((cols 0 is).map fun n : Nat => V.int (n : Int))) →
    is.map (·.2) = ts → Gaps [] is → (asm is).length ≤ 1000 → e ≤ 10 → Q (.ref a) H'
abbrev Wd : Type := Str × V × List Nat
def sp_allSigns : Sp := fun vs H Q _ => vs = [] ∧ ∀ l : List Nat, (∀ c ∈ l, c ∈ signsL ∧ c ≠ 10) → 1 ≤ l.length → l.length ≤ 100 → Q (.str (S l)) H
def sp_anySign : Sp := fun vs H Q _ => ∃ (p c : Addr) (m : Nat) (b : Bool), vs = [.ref p, .bl b] ∧ PenAt H p c m ∧ m < 900000 ∧ ∀ (H' : Hp) (ch : Nat), Ks H H' → PenAt H' p c (m + 2) → ch ∈ signsL → (b = true → ch ≠ 10) → Q (.str (S [ch])) H'
def sp_anyWord : Sp := fun vs H Q _ => ∃ (p c : Addr) (m l u : Nat) (b : Bool), vs = [.ref p, .int (l : Int), .int (u : Int), .bl b] ∧ PenAt H p c m ∧ m < 800000 ∧ l ≤ u ∧ u ≤ 1000 ∧
  ∀ (H' : Hp) (t : List Nat), Ks H H' → PenAt H' p c (m + 1 + u * 2) → l ≤ t.length → t.length ≤ u → (∀ c ∈ t, c ∈ signsL ∧ (b = true → c ≠ 10)) → Q (.str (S t)) H'
/-! ### tests as words -/
def k6 (k : Str) : List Nat := k.cps.toList
theorem S_k (k : Str) : S (k6 k) = k := S_tl k
theorem k_S (l : List Nat) : k6 (S l) = l := rfl
def nW (k : Str) : Wd := ("name", .str k, k6 k)
def aW : V → List Wd
  | .str x => [("quoted", .str x, quoteL (k6 x))]
  | .int n => [("number", .int n, TL.numL n.toNat)]
  | _ => []
def pW (p : Pt) : List Wd := nW p.1 :: aW p.2
def ngW (n : Bool) : List Wd := if n = true then [nW "not"] else []
def tW : Tst → List Wd
  | .pl p n => ngW n ++ pW p
  | .rg p q n => ngW n ++ (nW "from" :: (pW p ++ (nW "to" :: pW q)))
def twT (t : Tst) : List (List Nat) := (tW t).map (·.2.2)
inductive PlC : Pt → Prop
  | wd {k : Str} {t : List Nat} (h : isW k) (h1 : t.length ≤ 12) (h2 : ∀ c ∈ t, c ∈ signsL) : PlC (k, .str (S t))
  | nu {k : Str} {n : Nat} (h : k = "short" ∨ k = "number") (h1 : n < 1000000000) : PlC (k, .int (n : Int))
  | ba {k : Str} (h : k = "all" ∨ k = "last") : PlC (k, .non)
def TsC : Tst → Prop
  | .pl p _ => PlC p
  | .rg p q _ => PlC p ∧ PlC q
inductive PlR : Pt → Option Er → Prop
  | ok {p : Pt} (h : OkP p) : PlR p none
  | wd {k : Str} {t : List Nat} (h : isW k) (h1 : t.length ≤ 12) (h2 : ∀ c ∈ t, c ∈ signsL) (h3 : lw t = false) : PlR (k, .str (S t)) (some (.word "argument"))
  | nu {k : Str} {lo hi : Int} {n : Nat} (h : (k = "short" ∧ lo = 0 ∧ hi = 40) ∨ (k = "number" ∧ lo = 1 ∧ hi = 6)) (h1 : n < 1000000000) (h2 : (n : Int) < lo ∨ hi < (n : Int)) : PlR (k, .int (n : Int)) (some (.num k (.int (n : Int))))
/-! ### the reader of words -/
abbrev tk3 (k : Str) (v : V) (c : Nat) : W3 := (k, v, c)
def TokG (w : W3) : Prop := (∃ t, w.1 = "name" ∧ w.2.1 = .str (S t)) ∨ (∃ t, w.1 = "quoted" ∧ w.2.1 = .str (S t)) ∨ ∃ n : Int, w.1 = "number" ∧ w.2.1 = .int n
def rF (wt : Addr) (e i : Nat) : List (Str × V) := [("_words", .ref wt), ("_number", .int 1), ("_end", .int (e : Int)), ("_at", .int (i : Int))]
def RdAt (CR : Addr) (H : Hp) (r : Addr) (dn rs : List W3) (e : Nat) : Prop := ∃ (dx wt : Addr) (as : List Addr), H r = some (.ins CR dx (rF wt e dn.length)) ∧ H wt = some (.tup (as.map V.ref)) ∧ Paired (fun a w => H a = some (.tup (w3V w))) as (dn ++ rs) ∧ True
def SmX (r : Addr) (H H' : Hp) : Prop := ∀ b o, b ≠ r → H b = some o → H' b = some o
theorem SmX.of {r : Addr} {H H' : Hp} (s : Same H H') : SmX r H H' := fun b o _ e => s b o e
theorem SmX.trans {r : Addr} {H H1 H2 : Hp} (s : SmX r H H1) (s2 : SmX r H1 H2) : SmX r H H2 := fun b o n e => s2 b o n (s b o n e)
theorem SmX.same {r : Addr} {H H' : Hp} (s : SmX r H H') (n : H r = none) : Same H H' := fun b o e => s b o (fun z => by rw [z, n] at e; cases e) e
def cmV : List W3 → V
  | [] => .str ""
  | w :: _ => if w.1 = "name" then w.2.1 else .str ""
def colE (e : Nat) : List W3 → Nat
  | [] => e
  | w :: _ => w.2.2
def ErX (CT r : Addr) (H : Hp) (c : Nat) (E : XK) : Prop := ∀ (d : Addr) (H' : Hp), SmX r H H' → H' d = some (.xd [("column", .int (c : Int)), ("line", .int 1)]) → E (.ref CT) (some d) H'
theorem ErX.go {CT r : Addr} {H H1 : Hp} {c : Nat} {E : XK} (x : ErX CT r H c E) (s : SmX r H H1) : ErX CT r H1 c E := fun d H' s2 e => x d H' (s.trans s2) e
inductive PlP : List W3 → Option Pt → List W3 → Prop
  | wd {k : Str} {v : V} {c d : Nat} {r : List W3} (h : isW k) : PlP (tk3 "name" (.str k) c :: tk3 "quoted" v d :: r) (some (k, v)) r
  | wdX {k : Str} {c : Nat} {r : List W3} (h : isW k) (h2 : ∀ x r', r = x :: r' → x.1 ≠ "quoted") : PlP (tk3 "name" (.str k) c :: r) none r
  | nu {k : Str} {v : V} {c d : Nat} {r : List W3} (h : k = "short" ∨ k = "number") : PlP (tk3 "name" (.str k) c :: tk3 "number" v d :: r) (some (k, v)) r
  | nuX {k : Str} {c : Nat} {r : List W3} (h : k = "short" ∨ k = "number") (h2 : ∀ x r', r = x :: r' → x.1 ≠ "number") : PlP (tk3 "name" (.str k) c :: r) none r
  | ba {k : Str} {c : Nat} {r : List W3} (h : k = "all" ∨ k = "last") : PlP (tk3 "name" (.str k) c :: r) (some (k, .non)) r
  | no {r : List W3} (h : inV (cmV r) [.str "begins", .str "ends", .str "has", .str "is", .str "short", .str "number", .str "all", .str "last"] = false) : PlP r none r
def NgS (rs : List W3) (n : Bool) (r1 : List W3) : Prop := (n = true ∧ ∃ c, rs = tk3 "name" (.str "not") c :: r1) ∨ (n = false ∧ r1 = rs ∧ cmV rs ≠ .str "not")
abbrev Fm : Type := Bool × List Pt
inductive FmP : List W3 → Option Fm → List W3 → Prop
  | pl {rs r1 r : List W3} {n : Bool} {o : Option Pt} (h : NgS rs n r1) (h1 : cmV r1 ≠ .str "from") (h2 : PlP r1 o r) : FmP rs (o.map fun p => (n, [p])) r
  | r1 {rs r2 r : List W3} {n : Bool} {c : Nat} (h : NgS rs n (tk3 "name" (.str "from") c :: r2)) (h1 : PlP r2 none r) : FmP rs none r
  | r2 {rs r2 r : List W3} {n : Bool} {c : Nat} {p : Pt} (h : NgS rs n (tk3 "name" (.str "from") c :: r2)) (h1 : PlP r2 (some p) r) (h2 : cmV r ≠ .str "to") : FmP rs none r
  | r3 {rs r2 r3 r : List W3} {n : Bool} {c d : Nat} {p : Pt} {o : Option Pt} (h : NgS rs n (tk3 "name" (.str "from") c :: r2)) (h1 : PlP r2 (some p) (tk3 "name" (.str "to") d :: r3)) (h2 : PlP r3 o r) : FmP rs (o.map fun q => (n, [p, q])) r
def sp_WordReader_init (CR : Addr) : Sp := fun vs H Q _ => ∃ (a dx : Addr) (l : List Nat), vs = [.ref a, .str (S l), .int 1] ∧ H a = some (.ins CR dx []) ∧ l.length ≤ 100000 ∧ ∀ (H' : Hp) (ws : List W3), SmX a H H' → RdAt CR H' a [] ws (l.length + 1) → Lex l 0 ws → Q .non H'
def sp_WordReader_coming (CR : Addr) : Sp := fun vs H Q _ => ∃ (r : Addr) (dn rs : List W3) (e : Nat), vs = [.ref r] ∧ RdAt CR H r dn rs e ∧ (∀ w ∈ rs, TokG w) ∧ ∀ H', Same H H' → Q (cmV rs) H'
def sp_WordReader_skipped (CR : Addr) : Sp := fun vs H Q _ => ∃ (r : Addr) (dn rs : List W3) (e : Nat) (k : Str), vs = [.ref r, .str k] ∧ RdAt CR H r dn rs e ∧ (∀ w ∈ rs, TokG w) ∧
  ((∃ c rs', rs = tk3 "name" (.str k) c :: rs' ∧ ∀ H', SmX r H H' → RdAt CR H' r (dn ++ [tk3 "name" (.str k) c]) rs' e → Q (.bl true) H') ∨ (cmV rs ≠ .str k ∧ ∀ H', Same H H' → Q (.bl false) H'))
def sp_WordReader_refuse (CR CT : Addr) : Sp := fun vs H Q E => ∃ (r : Addr) (dn rs : List W3) (e : Nat) (k : Str), vs = [.ref r, .str k] ∧ (k = "name" ∨ k = "quoted" ∨ k = "number") ∧ RdAt CR H r dn rs e ∧ (∀ w ∈ rs, TokG w) ∧ ErX CT r H (colE e rs) E
def sp_WordReader_chosen (K : PySem.W.Frag) (CR CT : Addr) : Sp := fun vs H Q E => ∃ (r ta : Addr) (dn rs : List W3) (e : Nat) (xs : List V), vs = [.ref r, .ref ta] ∧ RdAt CR H r dn rs e ∧ (∀ w ∈ rs, TokG w) ∧ H ta = some (.tup xs) ∧ (∀ x ∈ xs, ∃ s, x = .str s) ∧
  ((∃ k c rs', rs = tk3 "name" (.str k) c :: rs' ∧ inV (.str k) xs = true ∧ ∀ H', SmX r H H' → RdAt CR H' r (dn ++ [tk3 "name" (.str k) c]) rs' e → Q (.str k) H') ∨ (inV (cmV rs) xs = false ∧ ErX CT r H (colE e rs) E))
def tkPost (CR CT : Addr) (r : Addr) (dn rs : List W3) (e : Nat) (k : Str) (H : Hp) (Q : VK) (E : XK) : Prop :=
  (∃ v c rs', rs = tk3 k v c :: rs' ∧ ∀ H', SmX r H H' → RdAt CR H' r (dn ++ [tk3 k v c]) rs' e → Q v H') ∨ ((∀ x r', rs = x :: r' → x.1 ≠ k) ∧ ErX CT r H (colE e rs) E)
def sp_WordReader_taken (CR CT : Addr) : Sp := fun vs H Q E => ∃ (r : Addr) (dn rs : List W3) (e : Nat) (k : Str), vs = [.ref r, .str k] ∧ (k = "quoted" ∨ k = "number") ∧ RdAt CR H r dn rs e ∧ (∀ w ∈ rs, TokG w) ∧ tkPost CR CT r dn rs e k H Q E
def sp_WordReader_quoted (CR CT : Addr) : Sp := fun vs H Q E => ∃ (r : Addr) (dn rs : List W3) (e : Nat), vs = [.ref r] ∧ RdAt CR H r dn rs e ∧ (∀ w ∈ rs, TokG w) ∧ tkPost CR CT r dn rs e "quoted" H Q E
def sp_WordReader_whole (CR CT : Addr) : Sp := fun vs H Q E => ∃ (r : Addr) (dn rs : List W3) (e : Nat), vs = [.ref r] ∧ RdAt CR H r dn rs e ∧ (∀ w ∈ rs, TokG w) ∧ tkPost CR CT r dn rs e "number" H Q E
def sp_WordReader_finish (CR CT : Addr) : Sp := fun vs H Q E => ∃ (r : Addr) (dn : List W3) (e : Nat), vs = [.ref r] ∧ RdAt CR H r dn [] e ∧ Q .non H
def PrAt (H : Hp) (a : Addr) (p : Pt) : Prop := H a = some (.tup [.str p.1, p.2])
def FmAt (H : Hp) (a : Addr) (f : Fm) : Prop := ∃ (b : Addr) (as : List Addr), H a = some (.tup [.bl f.1, .ref b]) ∧ H b = some (.tup (as.map V.ref)) ∧ Paired (PrAt H) as f.2
def sp_plainForm (K : PySem.W.Frag) (CR CT : Addr) : Sp := fun vs H Q E => ∃ (r : Addr) (dn rs : List W3) (e : Nat) (o : Option Pt) (rs' : List W3), vs = [.ref r] ∧ RdAt CR H r dn rs e ∧ (∀ w ∈ rs, TokG w) ∧ PlP rs o rs' ∧
  (∀ p, o = some p → ∀ (H' : Hp) (a : Addr) (dn' : List W3), SmX r H H' → RdAt CR H' r dn' rs' e → PrAt H' a p → Q (.ref a) H') ∧ (o = none → ErX CT r H (colE e rs') E)
def sp_linetestForm (K : PySem.W.Frag) (CR CT : Addr) : Sp := fun vs H Q E => ∃ (r : Addr) (dn rs : List W3) (e : Nat) (o : Option Fm) (rs' : List W3), vs = [.ref r] ∧ RdAt CR H r dn rs e ∧ (∀ w ∈ rs, TokG w) ∧ FmP rs o rs' ∧
  (∀ f, o = some f → ∀ (H' : Hp) (a : Addr) (dn' : List W3), SmX r H H' → RdAt CR H' r dn' rs' e → FmAt H' a f → Q (.ref a) H') ∧ (o = none → ErX CT r H (colE e rs') E)
inductive MdR : List Pt → Option Er → Prop
  | one {p : Pt} {o : Option Er} (h : PlR p o) : MdR [p] o
  | fst {p q : Pt} {e : Er} (h : PlR p (some e)) (h2 : ∃ o, PlR q o) : MdR [p, q] (some e)
  | snd {p q : Pt} {o : Option Er} (h : PlR p none) (h2 : PlR q o) : MdR [p, q] o
def mkT : Fm → Tst
  | (n, [p]) => .pl p n
  | (n, p :: q :: _) => .rg p q n
  | (n, []) => .pl ("", .non) n
def sp_madeLinetest (CL CB CN : Addr) : Sp := fun vs H Q E => ∃ (a : Addr) (f : Fm) (o : Option Er), vs = [.ref a] ∧ FmAt H a f ∧ MdR f.2 o ∧
  (o = none → ∀ (H' : Hp) (b : Addr), Same H H' → TsAt CL H' b (mkT f) → Q (.ref b) H') ∧ ∀ e, o = some e → ErAt CB CN H e E
def sp_readLinetest (CL CT CB CN : Addr) : Sp := fun vs H Q E => ∃ (l : List Nat) (ws : List W3) (o : Option Fm) (rs : List W3), vs = [.str (S l)] ∧ l.length ≤ 100000 ∧ Lex l 0 ws ∧ (∀ w ∈ ws, TokG w) ∧ FmP ws o rs ∧
  (o = none → ∀ (d : Addr) (H' : Hp), Same H H' → H' d = some (.xd [("column", .int (colE (l.length + 1) rs : Nat)), ("line", .int 1)]) → E (.ref CT) (some d) H') ∧
  ∀ f, o = some f → rs = [] ∧ ∃ m, MdR f.2 m ∧ (m = none → ∀ (H' : Hp) (b : Addr), Same H H' → TsAt CL H' b (mkT f) → Q (.ref b) H') ∧ ∀ e, m = some e → ErAt CB CN H e E
def sp_linetestText (CL : Addr) : Sp := fun vs H Q _ => ∃ (o : Addr) (t : Tst), vs = [.ref o] ∧ TsAt CL H o t ∧ OkT t ∧ ∀ H', Same H H' → Q (.str (S (TL.joinL [32] (twT t)))) H'
def sp_linetestTextP (CL : Addr) : Sp := fun vs H Q _ => ∃ (o : Addr) (p : Pt) (n : Bool), vs = [.ref o] ∧ PlAt CL H o p n ∧ OkP p ∧ ∀ H', Same H H' → Q (.str (S (TL.joinL [32] (twT (.pl p n))))) H'
structure CaR (K : PySem.W.Frag) (CR : Addr) : Prop where
  i : C8.InsC K CR
  a1 : NoAttr K CR "_words"
  a2 : NoAttr K CR "_number"
  a3 : NoAttr K CR "_end"
  a4 : NoAttr K CR "_at"
structure CoR (P : Program) (w : World) (K : PySem.W.Frag) (mg : Str → Option Value) (base : Heap) (CR : Addr) : Prop where
  g_WordReader : mg "WordReader" = some (.ref CR)
  m_WordReader : C8.Mak P w K mg base 5 "WordReader" CR (sp_WordReader_init CR) []
/-! ### the law's promises -/
def DueAt (H : Hp) (d : Addr) : Er → Prop
  | .word w => H d = some (.tup [.str "word", .str w])
  | .num w v => H d = some (.tup [.str "number", .str w, v])
def sp_testMade (CL : Addr) : Sp := fun vs H Q _ => ∃ (a : Addr) (t : Tst), vs = [.ref a] ∧ CkAt H a t ∧ OkT t ∧ ∀ (H' : Hp) (o : Addr), Same H H' → TsAt CL H' o t → Q (.ref o) H'
def sp_testMadeP (CL : Addr) : Sp := fun vs H Q _ => ∃ (a : Addr) (p : Pt) (n : Bool), vs = [.ref a] ∧ CkAt H a (.pl p n) ∧ OkP p ∧ ∀ (H' : Hp) (o : Addr), Same H H' → TsAt CL H' o (.pl p n) → Q (.ref o) H'
def sp_anyPlain : Sp := fun vs H Q _ => ∃ (p c : Addr) (m : Nat), vs = [.ref p] ∧ PenAt H p c m ∧ m < 600000 ∧ ∀ (H' : Hp) (a : Addr) (z : Pt), Ks H H' → PenAt H' p c (m + 20) → OkP z → H' a = some (.tup (cT z .non .non false)) → Q (.ref a) H'
def sp_anyTest : Sp := fun vs H Q _ => ∃ (p c : Addr) (m : Nat), vs = [.ref p] ∧ PenAt H p c m ∧ m < 500000 ∧ ∀ (H' : Hp) (a : Addr) (t : Tst), Ks H H' → PenAt H' p c (m + 60) → OkT t → CkAt H' a t → Q (.ref a) H'
def wL (ts : List (List Nat)) : List V := ts.map fun l => V.str (S l)
def sp_testWordsP : Sp := fun vs H Q _ => ∃ (a : Addr) (p : Pt) (n : Bool), vs = [.ref a] ∧ H a = some (.tup (cT p .non .non n)) ∧ PlC p ∧ ∀ (H' : Hp) (L : Addr), Same H H' → H' L = some (.lst (wL (twT (.pl p n)))) → Q (.ref L) H'
def sp_testWords : Sp := fun vs H Q _ => ∃ (a : Addr) (t : Tst), vs = [.ref a] ∧ CkAt H a t ∧ TsC t ∧ ∀ (H' : Hp) (L : Addr), Same H H' → H' L = some (.lst (wL (twT t))) → Q (.ref L) H'
def sp_isTestP (CL : Addr) : Sp := fun vs H Q _ => ∃ (o a : Addr) (p : Pt) (n : Bool), vs = [.ref o, .ref a] ∧ PlAt CL H o p n ∧ H a = some (.tup (cT p .non .non n)) ∧ OkP p ∧ ∀ H', Same H H' → Q (.bl true) H'
def sp_isTest (CL : Addr) : Sp := fun vs H Q _ => ∃ (o a : Addr) (t : Tst), vs = [.ref o, .ref a] ∧ TsAt CL H o t ∧ CkAt H a t ∧ OkT t ∧ ∀ H', Same H H' → Q (.bl true) H'
def sp_beyond : Sp := fun vs H Q _ => ∃ (p c : Addr) (m : Nat) (ck : V), vs = [.ref p, ck] ∧ PenAt H p c m ∧ m < 500000 ∧ ∀ (H' : Hp) (r a d : Addr) (z : Pt) (e : Er), Ks H H' → PenAt H' p c (m + 40) → PlR z (some e) → H' r = some (.tup [.ref a, .ref d]) → H' a = some (.tup (cT z .non .non false)) → DueAt H' d e → Q (.ref r) H'
def sp_isWrongRight : Sp := fun vs H Q _ => ∃ (p c lw : Addr) (m : Nat) (t : Tst), vs = [.ref p, .ref lw] ∧ PenAt H p c m ∧ m < 500000 ∧ H lw = some (.lst (wL (twT t))) ∧ TsC t ∧ ∀ H', Ks H H' → PenAt H' p c (m + 60) → Q (.bl true) H'
def sp_lawRead (CL : Addr) : Sp := fun vs H Q _ => ∃ (l : List Nat) (ws : List W3) (f : Fm) (m : Option Er), vs = [.str (S l)] ∧ l.length ≤ 100000 ∧ Lex l 0 ws ∧ (∀ w ∈ ws, TokG w) ∧ FmP ws (some f) [] ∧ MdR f.2 m ∧
  (m = none → ∀ (H' : Hp) (t b : Addr), Same H H' → H' t = some (.tup [.str "told", .ref b]) → TsAt CL H' b (mkT f) → Q (.ref t) H') ∧ ∀ e, m = some e → ∀ (H' : Hp) (d : Addr), Same H H' → DueAt H' d e → Q (.ref d) H'
def sp_law (K : PySem.W.Frag) : Sp := fun vs H Q _ => ∃ (a : Addr) (ns : List Int), vs = [.ref a] ∧ SqL K H a (ns.map V.int) ∧ ns.length ≤ 63 ∧ ∀ H', Q (.bl true) H'

end
end Vf

set_option maxRecDepth 100000
set_option maxHeartbeats 4000000
namespace Vf
open PySem PySem.Spec PyProof.Rows L2 SX
section
variable {P : Program} {w : World} {K : PySem.W.Frag} {mg : Str → Option Value} {base : Heap}
def wOf (i : Nat) : List Nat → W3
  | [] => ("", .non, 0)
  | c :: r =>
    if c ∈ lowL then ("name", .str (S ((c :: r).take ((c :: r).takeWhile (fun c => decide (c ∈ lowL))).length)), i + ((c :: r).takeWhile (fun c => decide (c ∈ lowL))).length)
    else if c ∈ figL then
      (if ((c :: r).takeWhile (fun c => decide (c ∈ figL))).length > 1 ∧ c = 48 then ("bad number", .int ((i : Int) + 2), i + ((c :: r).takeWhile (fun c => decide (c ∈ figL))).length)
       else if ((c :: r).takeWhile (fun c => decide (c ∈ figL))).length > 9 then ("bad number", .int ((i : Int) + 9 + 1), i + ((c :: r).takeWhile (fun c => decide (c ∈ figL))).length)
       else ("number", .int ((NumText.digitsVal ((c :: r).take ((c :: r).takeWhile (fun c => decide (c ∈ figL))).length) : Nat) : Int), i + ((c :: r).takeWhile (fun c => decide (c ∈ figL))).length))
    else if c = 34 then qRead i r (i + 1) []
    else if c = 40 ∨ c = 41 then ("bracket", .str (S [c]), i + 1)
    else ("bad sign", .int ((i : Int) + 1), i + 1)
theorem wOf_cons (i c : Nat) (r : List Nat) : wOf i (c :: r) = ((
    if c ∈ lowL then ("name", V.str (S ((c :: r).take ((c :: r).takeWhile (fun c => decide (c ∈ lowL))).length)), i + ((c :: r).takeWhile (fun c => decide (c ∈ lowL))).length)
    else if c ∈ figL then
      (if ((c :: r).takeWhile (fun c => decide (c ∈ figL))).length > 1 ∧ c = 48 then ("bad number", V.int ((i : Int) + 2), i + ((c :: r).takeWhile (fun c => decide (c ∈ figL))).length)
       else if ((c :: r).takeWhile (fun c => decide (c ∈ figL))).length > 9 then ("bad number", V.int ((i : Int) + 9 + 1), i + ((c :: r).takeWhile (fun c => decide (c ∈ figL))).length)
       else ("number", V.int ((NumText.digitsVal ((c :: r).take ((c :: r).takeWhile (fun c => decide (c ∈ figL))).length) : Nat) : Int), i + ((c :: r).takeWhile (fun c => decide (c ∈ figL))).length))
    else if c = 34 then qRead i r (i + 1) []
    else if c = 40 ∨ c = 41 then ("bracket", V.str (S [c]), i + 1)
    else ("bad sign", V.int ((i : Int) + 1), i + 1) : W3)) := rfl
theorem wAt_of {l r : List Nat} {i : Nat} (h : l.drop i = r) (hne : r ≠ []) : wAt l i = wOf i r := by
  cases r with
  | nil => exact absurd rfl hne
  | cons c r =>
    have hi : i < l.length := by
      have := congrArg List.length h
      rw [List.length_drop] at this
      simp only [List.length_cons] at this
      omega
    have hc : l[i]? = some c := by
      have := congrArg (fun z => z[0]?) h
      rw [List.getElem?_drop] at this
      exact this
    have h1 : l.drop (i + 1) = r := by
      rw [List.drop_eq_getElem_cons hi] at h
      exact (List.cons.inj h).2
    have er : ∀ sg, runEnd sg l i - i = ((c :: r).takeWhile (fun c => decide (c ∈ sg))).length := fun sg => by
      unfold runEnd
      rw [h, Nat.add_sub_cancel_left]
    have er2 : ∀ sg, runEnd sg l i = i + ((c :: r).takeWhile (fun c => decide (c ∈ sg))).length := fun sg => by
      unfold runEnd
      rw [h]
    unfold wAt numAt wOf
    rw [hc, h, h1, er lowL, er figL, er2 lowL, er2 figL]
    simp only [Option.some.injEq]
theorem tw_app {p : Nat → Bool} : ∀ {t s : List Nat}, (∀ c ∈ t, p c = true) → (∀ c, s.head? = some c → p c = false) → (t ++ s).takeWhile p = t
  | [], s, _, h => by
    cases s with
    | nil => rfl
    | cons c r => exact List.takeWhile_cons_of_neg (by rw [h c rfl]; exact Bool.false_ne_true)
  | c :: t, s, h1, h2 => by
    rw [List.cons_append, List.takeWhile_cons_of_pos (h1 c (List.mem_cons_self ..)), tw_app (fun d hd => h1 d (List.mem_cons_of_mem _ hd)) h2]
theorem tw_ge {p : Nat → Bool} {t s : List Nat} (h : ∀ c ∈ t, p c = true) : t.length ≤ ((t ++ s).takeWhile p).length := by
  induction t with
  | nil => exact Nat.zero_le _
  | cons c t ih =>
    rw [List.cons_append, List.takeWhile_cons_of_pos (h c (List.mem_cons_self ..)), List.length_cons, List.length_cons]
    have := ih fun d hd => h d (List.mem_cons_of_mem _ hd)
    omega
theorem low_fig {c : Nat} (h : c ∈ figL) : ¬ c ∈ lowL := (show ∀ c ∈ figL, ¬ c ∈ lowL by decide) c h
theorem fig_of {c : Nat} (h1 : 48 ≤ c) (h2 : c ≤ 57) : c ∈ figL := by
  have : c = 48 ∨ c = 49 ∨ c = 50 ∨ c = 51 ∨ c = 52 ∨ c = 53 ∨ c = 54 ∨ c = 55 ∨ c = 56 ∨ c = 57 := by omega
  rcases this with h | h | h | h | h | h | h | h | h | h <;> subst h <;> decide
theorem numL_fig (n : Nat) : ∀ c ∈ TL.numL n, c ∈ figL := fun c hc => by
  have := TL.numL_digits n c hc
  exact fig_of this.1 this.2
theorem numL_head : ∀ (n : Nat), 1 ≤ n → ∃ c r, TL.numL n = c :: r ∧ 49 ≤ c := fun n => by
  induction n using Nat.strongRecOn with
  | ind n ih =>
    intro h
    by_cases h10 : n < 10
    · exact ⟨48 + n, [], TL.numL_lt h10, by omega⟩
    · obtain ⟨c, r, e, hc⟩ := ih (n / 10) (by omega) (by omega)
      exact ⟨c, r ++ [48 + n % 10], by rw [TL.numL_step (by omega), e]; rfl, hc⟩
theorem qRead_esc (a0 : Nat) : ∀ (w r acc : List Nat) (pl : Nat), (∀ c ∈ w, c ∈ signsL) → qRead a0 (w.flatMap esc1 ++ r) pl acc = qRead a0 r (pl + (w.flatMap esc1).length) (acc ++ w)
  | [], r, acc, pl, _ => by
    show qRead a0 r pl acc = qRead a0 r (pl + 0) (acc ++ [])
    rw [List.append_nil]; rfl
  | c :: w, r, acc, pl, h => by
    have ih := fun pl' acc' => qRead_esc a0 w r acc' pl' fun d hd => h d (List.mem_cons_of_mem _ hd)
    rw [List.flatMap_cons, List.append_assoc]
    have ea : acc ++ c :: w = acc ++ [c] ++ w := by rw [List.append_assoc]; rfl
    by_cases h1 : c = 92
    · subst h1
      show qRead a0 (92 :: 92 :: (w.flatMap esc1 ++ r)) pl acc = qRead a0 r (pl + ([92, 92] ++ w.flatMap esc1).length) _
      rw [qRead_cons, if_neg (by decide), if_pos rfl]
      show qRead a0 (w.flatMap esc1 ++ r) (pl + 2) (acc ++ [92]) = _
      rw [ih, ea, List.length_append]
      congr 1
      show pl + 2 + _ = pl + (2 + _)
      omega
    · by_cases h2 : c = 34
      · subst h2
        show qRead a0 (92 :: 34 :: (w.flatMap esc1 ++ r)) pl acc = qRead a0 r (pl + ([92, 34] ++ w.flatMap esc1).length) _
        rw [qRead_cons, if_neg (by decide), if_pos rfl]
        show qRead a0 (w.flatMap esc1 ++ r) (pl + 2) (acc ++ [34]) = _
        rw [ih, ea, List.length_append]
        congr 1
        show pl + 2 + _ = pl + (2 + _)
        omega
      · by_cases h3 : c = 10
        · subst h3
          show qRead a0 (92 :: 110 :: (w.flatMap esc1 ++ r)) pl acc = qRead a0 r (pl + ([92, 110] ++ w.flatMap esc1).length) _
          rw [qRead_cons, if_neg (by decide), if_pos rfl]
          show qRead a0 (w.flatMap esc1 ++ r) (pl + 2) (acc ++ [10]) = _
          rw [ih, ea, List.length_append]
          congr 1
          show pl + 2 + _ = pl + (2 + _)
          omega
        · have e1 : esc1 c = [c] := by
            unfold esc1
            rw [if_neg h1, if_neg h2, if_neg h3]
          rw [e1]
          show qRead a0 (c :: (w.flatMap esc1 ++ r)) pl acc = qRead a0 r (pl + ([c] ++ w.flatMap esc1).length) _
          rw [qRead_cons, if_neg h2, if_neg h1, if_pos (h c (List.mem_cons_self ..)), ih, ea, List.length_append]
          congr 1
          show pl + 1 + _ = pl + (1 + _)
          omega
/-- plain signs are read as they are -/
theorem qRead_plain (a0 : Nat) : ∀ (u r acc : List Nat) (pl : Nat), (∀ c ∈ u, c ∈ signsL ∧ c ≠ 34 ∧ c ≠ 92) → qRead a0 (u ++ r) pl acc = qRead a0 r (pl + u.length) (acc ++ u)
  | [], r, acc, pl, _ => by
    show qRead a0 r pl acc = qRead a0 r (pl + 0) (acc ++ [])
    rw [List.append_nil]; rfl
  | c :: u, r, acc, pl, h => by
    obtain ⟨h1, h2, h3⟩ := h c (List.mem_cons_self ..)
    have ih := qRead_plain a0 u r (acc ++ [c]) (pl + 1) fun d hd => h d (List.mem_cons_of_mem _ hd)
    rw [List.cons_append, qRead_cons, if_neg h2, if_neg h3, if_pos h1, ih, List.append_assoc, List.length_cons]
    congr 1
    omega
/-- the texts that end a line: nothing but blanks may stand behind -/
def Ends (k : Str) (t : List Nat) : Prop := k = "bad quoted" ∧ ¬ (t.getLast? = some 34 ∧ 1 < t.length)
def Back (k : Str) (t : List Nat) : Prop := k = "bad quoted" ∧ t.getLast? = some 92
theorem good_at {k : Str} {v : V} {t s : List Nat} {i : Nat} (g : GoodW k v t) (h : ¬ clash t s) : wOf i (t ++ s) = (k, v, i + t.length) := by
  cases g with
  | name h1 h2 h3 =>
    obtain ⟨c, r, rfl⟩ : ∃ c r, t = c :: r := by
      cases t with
      | nil => simp at h1
      | cons c r => exact ⟨c, r, rfl⟩
    have htw : ((c :: r) ++ s).takeWhile (fun c => decide (c ∈ lowL)) = c :: r := tw_app (fun d hd => decide_eq_true (h3 d hd)) fun d hd => decide_eq_false fun hl => h ⟨(c :: r).getLast (by simp), d, List.getLast?_eq_some_getLast (by simp), hd, .inl ⟨h3 _ (List.getLast_mem _), hl⟩⟩
    show wOf i (c :: (r ++ s)) = _
    rw [wOf_cons, if_pos (h3 c (List.mem_cons_self ..)), show c :: (r ++ s) = (c :: r) ++ s from rfl, htw, List.take_left]
  | @num n hn =>
    obtain ⟨c, r, e⟩ : ∃ c r, TL.numL n = c :: r := by
      cases e : TL.numL n with
      | nil => exact absurd e (TL.numL_ne n)
      | cons c r => exact ⟨c, r, rfl⟩
    have hf := numL_fig n
    have hl := TL.numL_len (n := n) (k := 9) (by decide) (by omega)
    have hv := TL.numL_val n
    rw [e] at hf hl hv h ⊢
    have htw : ((c :: r) ++ s).takeWhile (fun c => decide (c ∈ figL)) = c :: r := tw_app (fun d hd => decide_eq_true (hf d hd)) fun d hd => decide_eq_false fun hl => h ⟨(c :: r).getLast (by simp), d, List.getLast?_eq_some_getLast (by simp), hd, .inr ⟨hf _ (List.getLast_mem _), hl⟩⟩
    have hc := hf c (List.mem_cons_self ..)
    have hno : ¬ ((c :: r).length > 1 ∧ c = 48) := fun ⟨z1, z2⟩ => by
      by_cases h0 : 1 ≤ n
      · obtain ⟨c', r', e', hc'⟩ := numL_head n h0
        rw [e] at e'
        have := (List.cons.inj e').1
        omega
      · have : n = 0 := by omega
        subst this
        rw [TL.numL_lt (by decide)] at e
        rw [← e] at z1
        simp at z1
    show wOf i (c :: (r ++ s)) = _
    rw [wOf_cons, if_neg (low_fig hc), if_pos hc, show c :: (r ++ s) = (c :: r) ++ s from rfl, htw, if_neg hno, if_neg (by omega), List.take_left, hv]
  | @quo w h1 h2 =>
    show wOf i (34 :: (w.flatMap esc1 ++ [34] ++ s)) = _
    rw [wOf_cons, if_neg (by decide), if_neg (by decide), if_pos rfl, List.append_assoc, qRead_esc i w _ [] (i + 1) h2]
    show qRead i (34 :: s) _ _ = _
    rw [qRead_cons, if_pos rfl]
    have e : i + 1 + (w.flatMap esc1).length + 1 = i + (quoteL w).length := by
      show _ = i + ((w.flatMap esc1 ++ [34]).length + 1)
      rw [List.length_append]
      show _ = i + (_ + 1 + 1)
      omega
    rw [e]
    rfl
  | @bra c hc =>
    show wOf i (c :: s) = _
    have : c = 40 ∨ c = 41 := by
      rcases List.mem_cons.mp hc with h | h
      · exact .inl h
      · exact .inr (List.mem_singleton.mp h)
    rw [wOf_cons, if_neg (by rcases this with h | h <;> subst h <;> decide), if_neg (by rcases this with h | h <;> subst h <;> decide), if_neg (by omega), if_pos this]
    rfl
theorem bad_at {k : Str} {o : Int} {t s : List Nat} {i : Nat} (g : BadW k o t) (h1 : Ends k t → ∀ c ∈ s, c = 32) (h2 : Back k t → s = []) : (wOf i (t ++ s)).1 = k ∧ (wOf i (t ++ s)).2.1 = .int (o + ((i : Int) + 1)) := by
  have q34 : ∀ (u r : List Nat), (∀ c ∈ u, c ∈ signsL ∧ c ≠ 34 ∧ c ≠ 92) → wOf i (34 :: u ++ r) = qRead i r (i + 1 + u.length) u := fun u r h => by
    show wOf i (34 :: (u ++ r)) = _
    rw [wOf_cons, if_neg (by decide), if_neg (by decide), if_pos rfl, qRead_plain i u r [] (i + 1) h]
    rfl
  have pl : ∀ c ∈ [97, 32, 48, 110, 40, 41, 126, 59], c ∈ signsL ∧ c ≠ 34 ∧ c ≠ 92 := by decide
  have ah : ∀ (w r : List Nat), (∀ c ∈ w, c ∈ signsL) → wOf i (aheadL w ++ r) = qRead i r (i + (aheadL w).length) w := fun w r h => by
    show wOf i (34 :: (w.flatMap esc1 ++ r)) = _
    rw [wOf_cons, if_neg (by decide), if_neg (by decide), if_pos rfl, qRead_esc i w r [] (i + 1) h]
    have e : i + 1 + (w.flatMap esc1).length = i + (aheadL w).length := by
      show _ = i + ((w.flatMap esc1).length + 1)
      omega
    rw [e]
    rfl
  cases g with
  | @zero n hn =>
    obtain ⟨c, r, e⟩ : ∃ c r, TL.numL n = c :: r := by
      cases e : TL.numL n with
      | nil => exact absurd e (TL.numL_ne n)
      | cons c r => exact ⟨c, r, rfl⟩
    have hf := numL_fig n
    rw [e] at hf ⊢
    have hg := tw_ge (p := fun c => decide (c ∈ figL)) (t := 48 :: c :: r) (s := s) (fun d hd => decide_eq_true (by
      rcases List.mem_cons.mp hd with h | h
      · subst h; decide
      · exact hf d h))
    simp only [List.length_cons] at hg
    show (wOf i (48 :: (c :: r ++ s))).1 = _ ∧ (wOf i (48 :: (c :: r ++ s))).2.1 = _
    rw [wOf_cons, if_neg (by decide), if_pos (by decide)]
    rw [show 48 :: (c :: r ++ s) = (48 :: c :: r) ++ s from rfl, if_pos ⟨by omega, rfl⟩]
    refine ⟨rfl, ?_⟩
    show V.int ((i : Int) + 2) = .int (1 + ((i : Int) + 1))
    congr 1
    omega
  | @many d j hd1 hd2 hj =>
    have e : TL.numL d = [48 + d] := TL.numL_lt (by omega)
    rw [e]
    have hf : ∀ c ∈ [48 + d] ++ [48, 49, 50, 51, 52, 53, 54, 55, 56] ++ repL j [57], c ∈ figL := fun c hc => by
      rcases List.mem_append.mp hc with hc | hc
      · rcases List.mem_append.mp hc with hc | hc
        · rw [List.mem_singleton.mp hc]
          exact fig_of (by omega) (by omega)
        · exact (show ∀ c ∈ [48, 49, 50, 51, 52, 53, 54, 55, 56], c ∈ figL by decide) c hc
      · have : ∀ n, ∀ c ∈ repL n [57], c = 57 := fun n => by
          induction n with
          | zero => intro c hc; cases hc
          | succ n ih =>
            intro c hc
            rcases List.mem_cons.mp (show c ∈ 57 :: repL n [57] from hc) with h | h
            · exact h
            · exact ih c h
        rw [this j c hc]
        decide
    have hg := tw_ge (p := fun c => decide (c ∈ figL)) (t := [48 + d] ++ [48, 49, 50, 51, 52, 53, 54, 55, 56] ++ repL j [57]) (s := s) (fun d hd => decide_eq_true (hf d hd))
    rw [List.length_append, List.length_append] at hg
    have h9 : ([48 + d] : List Nat).length + [48, 49, 50, 51, 52, 53, 54, 55, 56].length = 10 := rfl
    have hc : 48 + d ∈ figL := fig_of (by omega) (by omega)
    have es : [48 + d] ++ [48, 49, 50, 51, 52, 53, 54, 55, 56] ++ repL j [57] ++ s = (48 + d) :: ([48, 49, 50, 51, 52, 53, 54, 55, 56] ++ repL j [57] ++ s) := rfl
    rw [es] at hg ⊢
    rw [wOf_cons, if_neg (low_fig hc), if_pos hc, if_neg (fun z => by have := z.2; omega), if_pos (by omega)]
    refine ⟨rfl, ?_⟩
    show V.int ((i : Int) + 9 + 1) = .int (9 + ((i : Int) + 1))
    congr 1
    omega
  | @esc w e hw1 hw2 he =>
    have hm : mean e = none := (show ∀ e ∈ [116, 97, 98, 78, 32, 48, 39, 40], mean e = none by decide) e he
    rw [List.append_assoc, ah w _ hw2]
    show (qRead i (92 :: e :: ([110, 34] ++ s)) _ w).1 = _ ∧ _
    have eq := qRead_cons i 92 (e :: ([110, 34] ++ s)) (i + (aheadL w).length) w
    rw [if_neg (by decide), if_pos rfl] at eq
    dsimp only at eq
    rw [hm] at eq
    show (qRead i (92 :: e :: ([110, 34] ++ s)) _ w).1 = _ ∧ (qRead i (92 :: e :: ([110, 34] ++ s)) _ w).2.1 = _
    rw [eq]
    refine ⟨rfl, ?_⟩
    show V.int (((i + (aheadL w).length : Nat) : Int) + 1) = .int ((((aheadL w).length : Nat) : Int) + ((i : Int) + 1))
    congr 1
    omega
  | @tab w hw1 hw2 =>
    rw [List.append_assoc, ah w _ hw2]
    show (qRead i (9 :: ([34] ++ s)) _ w).1 = _ ∧ (qRead i (9 :: ([34] ++ s)) _ w).2.1 = _
    rw [qRead_cons, if_neg (by decide), if_neg (by decide), if_neg (by decide)]
    refine ⟨rfl, ?_⟩
    show V.int (((i + (aheadL w).length : Nat) : Int) + 1) = .int ((((aheadL w).length : Nat) : Int) + ((i : Int) + 1))
    congr 1
    omega
  | @opn u hu1 hu2 =>
    have hu3 : ∀ c ∈ u, c ∈ signsL ∧ c ≠ 34 ∧ c ≠ 92 := fun c hc => pl c (hu2 c hc)
    have he : Ends "bad quoted" (34 :: u) := ⟨rfl, fun ⟨z1, z2⟩ => by
      cases u with
      | nil => simp at z2
      | cons x r =>
        rw [List.getLast?_cons_cons, List.getLast?_eq_some_getLast (by simp)] at z1
        have z3 := hu3 _ (List.getLast_mem (l := x :: r) (by simp))
        exact z3.2.1 (Option.some.inj z1)⟩
    have hs := h1 he
    rw [q34 u s hu3]
    have eb : ∀ c ∈ s, c ∈ signsL ∧ c ≠ 34 ∧ c ≠ 92 := fun c hc => by rw [hs c hc]; decide
    have eq := qRead_plain i s [] u (i + 1 + u.length) eb
    rw [List.append_nil] at eq
    rw [eq]
    refine ⟨rfl, ?_⟩
    show V.int ((i : Int) + 1) = .int (0 + ((i : Int) + 1))
    rw [Int.zero_add]
  | @back u hu1 hu2 =>
    have hu3 : ∀ c ∈ u, c ∈ signsL ∧ c ≠ 34 ∧ c ≠ 92 := fun c hc => pl c (hu2 c hc)
    have hs := h2 ⟨rfl, by rw [List.getLast?_append]; rfl⟩
    subst hs
    rw [List.append_nil, q34 u [92] hu3, qRead_cons, if_neg (by decide), if_pos rfl]
    refine ⟨rfl, ?_⟩
    show V.int (((i + 1 + u.length : Nat) : Int) + 1) = .int (((u.length + 1 : Nat) : Int) + ((i : Int) + 1))
    congr 1
    omega
  | @sign c hc =>
    have z : ∀ c ∈ [65, 90, 59, 95, 45, 39, 126, 61, 44, 9, 92, 91, 93, 96], ¬ c ∈ lowL ∧ ¬ c ∈ figL ∧ ¬ c = 34 ∧ ¬ (c = 40 ∨ c = 41) := by decide
    obtain ⟨z1, z2, z3, z4⟩ := z c hc
    show (wOf i (c :: s)).1 = _ ∧ (wOf i (c :: s)).2.1 = _
    rw [wOf_cons, if_neg z1, if_neg z2, if_neg z3, if_neg z4]
    refine ⟨rfl, ?_⟩
    show V.int ((i : Int) + 1) = .int (0 + ((i : Int) + 1))
    rw [Int.zero_add]
inductive WsP : List Wd → Prop
  | nil : WsP []
  | good {k : Str} {v : V} {t : List Nat} {r : List Wd} (g : GoodW k v t) (h : WsP r) : WsP ((k, v, t) :: r)
  | bad {k : Str} {o : Int} {t : List Nat} {r : List Wd} (g : BadW k o t) (h : Ends k t → r = []) : WsP ((k, .int o, t) :: r)
def dueL : Nat → List Wd → List (Nat × List Nat) → List W3
  | n, w :: ws, (g, t) :: is => if isBad w.1 = true then [(w.1, (match w.2.1 with | .int o => .int (o + ((n + g : Nat) : Int) + 1) | v => v), n + g + 1)] else (w.1, w.2.1, n + g + 1) :: dueL (n + g + t.length) ws is
  | _, _, _ => []
theorem good_kind {k : Str} {v : V} {t : List Nat} (g : GoodW k v t) : isBad k = false := by
  cases g <;> decide +kernel
theorem bad_kind {k : Str} {o : Int} {t : List Nat} (g : BadW k o t) : isBad k = true := by
  cases g <;> decide +kernel
theorem good_ne {k : Str} {v : V} {t : List Nat} (g : GoodW k v t) : t ≠ [] ∧ t.head? ≠ some 32 ∧ t.length ≤ 30 := by
  cases g with
  | name h1 h2 h3 =>
    cases t with
    | nil => simp at h1
    | cons c r =>
      refine ⟨List.cons_ne_nil _ _, fun z => ?_, by omega⟩
      have := h3 c (List.mem_cons_self ..)
      rw [Option.some.inj z] at this
      exact absurd this (by decide)
  | @num n hn =>
    have hl := TL.numL_len (n := n) (k := 9) (by decide) (by omega)
    refine ⟨TL.numL_ne n, fun z => ?_, by omega⟩
    cases e : TL.numL n with
    | nil => exact TL.numL_ne n e
    | cons c r =>
      rw [e] at z
      have := numL_fig n c (by rw [e]; exact List.mem_cons_self ..)
      rw [Option.some.inj z] at this
      exact absurd this (by decide)
  | @quo w h1 h2 =>
    have := quote_len w
    exact ⟨List.cons_ne_nil _ _, (by intro z; cases z), by omega⟩
  | @bra c hc =>
    refine ⟨List.cons_ne_nil _ _, fun z => ?_, by show 1 ≤ 30; decide⟩
    rw [show c = 32 from Option.some.inj z] at hc
    exact absurd hc (by decide)
theorem bad_ne {k : Str} {o : Int} {t : List Nat} (g : BadW k o t) : t ≠ [] ∧ t.head? ≠ some 32 ∧ t.length ≤ 30 := by
  have la : ∀ w : List Nat, (aheadL w).length ≤ 2 * w.length + 1 := fun w => by
    have := esc_len w
    show (w.flatMap esc1).length + 1 ≤ _
    omega
  cases g with
  | @zero n hn =>
    have hl := TL.numL_len (n := n) (k := 9) (by decide) (by omega)
    exact ⟨List.cons_ne_nil _ _, (by intro z; cases z), by show _ + 1 ≤ 30; omega⟩
  | @many d j h1 h2 h3 =>
    rw [TL.numL_lt (show d < 10 by omega)]
    refine ⟨List.cons_ne_nil _ _, fun z => ?_, ?_⟩
    · have : 48 + d = 32 := Option.some.inj z
      omega
    · rw [List.length_append, List.length_append, rep_len]
      show 1 + 9 + j * 1 ≤ 30
      omega
  | @esc w e h1 h2 h3 =>
    have := la w
    refine ⟨List.cons_ne_nil _ _, (by intro z; cases z), ?_⟩
    rw [List.length_append]
    show _ + 4 ≤ 30
    omega
  | @tab w h1 h2 =>
    have := la w
    refine ⟨List.cons_ne_nil _ _, (by intro z; cases z), ?_⟩
    rw [List.length_append]
    show _ + 2 ≤ 30
    omega
  | @opn u h1 h2 => exact ⟨List.cons_ne_nil _ _, (by intro z; cases z), by show u.length + 1 ≤ 30; omega⟩
  | @back u h1 h2 =>
    refine ⟨List.cons_ne_nil _ _, (by intro z; cases z), ?_⟩
    rw [List.length_append]
    show u.length + 1 + 1 ≤ 30
    omega
  | @sign c hc =>
    refine ⟨List.cons_ne_nil _ _, fun z => ?_, by show 1 ≤ 30; decide⟩
    rw [show c = 32 from Option.some.inj z] at hc
    exact absurd hc (by decide)
theorem lex_blanks {l : List Nat} : ∀ (g i : Nat) (r : List Nat) (ws : List W3), l.drop i = blanks g ++ r → Lex l (i + g) ws → Lex l i ws
  | 0, i, r, ws, _, h => h
  | g + 1, i, r, ws, e, h => by
    have e' : l.drop i = 32 :: (blanks g ++ r) := e
    have hi : i < l.length := by
      have := congrArg List.length e'
      rw [List.length_drop] at this
      simp only [List.length_cons] at this
      omega
    have h2 := e'
    rw [List.drop_eq_getElem_cons hi] at h2
    obtain ⟨h3, h4⟩ := List.cons.inj h2
    refine .blank (by rw [List.getElem?_eq_getElem hi, h3]) (lex_blanks g (i + 1) r ws h4 ?_)
    rw [show i + 1 + g = i + (g + 1) by omega]
    exact h
theorem drop_app {l t s : List Nat} {i : Nat} (h : l.drop i = t ++ s) : l.drop (i + t.length) = s := by
  rw [← List.drop_drop, h, List.drop_left]
theorem blanks_mem : ∀ (n : Nat), ∀ c ∈ blanks n, c = 32
  | 0, c, h => by cases h
  | n + 1, c, h => by
    rcases List.mem_cons.mp (show c ∈ 32 :: blanks n from h) with h | h
    · exact h
    · exact blanks_mem n c h
theorem no_clash {t : List Nat} {is : List (Nat × List Nat)} {e : Nat} (hne : ∀ x ∈ is, x.2 ≠ []) (h : Gaps t is) : ¬ clash t (asm is ++ blanks e) := fun hc => by
  have b32 : ∀ s, (32 :: s) = asm is ++ blanks e → False := fun s hs => by
    obtain ⟨c, d, h1, h2, h3⟩ := hc
    rw [← hs] at h2
    have : 32 = d := Option.some.inj h2
    subst this
    rcases h3 with ⟨_, h3⟩ | ⟨_, h3⟩ <;> exact absurd h3 (by decide)
  cases is with
  | nil =>
    cases e with
    | zero =>
      obtain ⟨c, d, h1, h2, h3⟩ := hc
      cases h2
    | succ e => exact b32 (blanks e) rfl
  | cons x r =>
    obtain ⟨g, u⟩ := x
    cases g with
    | zero =>
      have hu : u ≠ [] := hne (0, u) (List.mem_cons_self ..)
      obtain ⟨d0, u', rfl⟩ : ∃ d u', u = d :: u' := by
        cases u with
        | nil => exact absurd rfl hu
        | cons d u' => exact ⟨d, u', rfl⟩
      obtain ⟨c, d, h1, h2, h3⟩ := hc
      have := h.1 ⟨c, d, h1, h2, h3⟩
      omega
    | succ g => exact b32 (blanks g ++ (u ++ asm r) ++ blanks e) rfl
theorem lex_all {l : List Nat} {e : Nat} : ∀ (ws : List Wd) (is : List (Nat × List Nat)) (pv : List Nat) (i : Nat), is.map (·.2) = ws.map (·.2.2) → Gaps pv is → WsP ws → (∀ w ∈ ws, w.2.2 ≠ []) → (∀ w ∈ ws.getLast?, Back w.1 w.2.2 → e = 0) → l.drop i = asm is ++ blanks e → i + (asm is ++ blanks e).length = l.length → Lex l i (dueL i ws is)
  | [], is, pv, i, hm, hg, hw, hn0, hb, hd, hlen => by
    have : is = [] := by
      cases is with
      | nil => rfl
      | cons x r => cases hm
    subst this
    have hd' : l.drop i = blanks e ++ [] := by rw [List.append_nil]; exact hd
    refine lex_blanks e i [] _ hd' (.done ?_)
    have : ([] ++ blanks e : List Nat).length = e := by
      rw [List.nil_append]; exact blanks_len e
    have h2 : i + ([] ++ blanks e : List Nat).length = l.length := hlen
    omega
  | w :: ws, [], pv, i, hm, hg, hw, hn0, hb, hd, hlen => by cases hm
  | w :: ws, (g, t) :: is, pv, i, hm, hg, hw, hn0, hb, hd, hlen => by
    have hm1 : t = w.2.2 := (List.cons.inj hm).1
    have hm2 : is.map (·.2) = ws.map (·.2.2) := (List.cons.inj hm).2
    have hd1 : l.drop i = blanks g ++ (t ++ (asm is ++ blanks e)) := by
      rw [hd]
      show blanks g ++ (t ++ asm is) ++ blanks e = _
      simp only [List.append_assoc]
    have hd2 := drop_app hd1
    rw [blanks_len] at hd2
    refine lex_blanks g i _ _ hd1 ?_
    have key : ∀ (hn : t ≠ []) (h32 : t.head? ≠ some 32), ∃ c, l[i + g]? = some c ∧ c ≠ 32 ∧ wAt l (i + g) = wOf (i + g) (t ++ (asm is ++ blanks e)) := fun hn h32 => by
      cases t with
      | nil => exact absurd rfl hn
      | cons c t' =>
        refine ⟨c, ?_, fun z => h32 (by rw [z]; rfl), wAt_of hd2 (by simp)⟩
        have h5 := congrArg (fun z => z[0]?) hd2
        rw [List.getElem?_drop] at h5
        exact h5
    cases hw with
    | @good k v t0 r gw hr =>
      have ht : t = t0 := hm1
      subst ht
      obtain ⟨n1, n2, n3⟩ := good_ne gw
      obtain ⟨c, hc1, hc2, hc3⟩ := key n1 n2
      have hne : ∀ x ∈ is, x.2 ≠ [] := fun x hx => by
        have hx2 : x.2 ∈ ws.map (·.2.2) := by rw [← hm2]; exact List.mem_map_of_mem hx
        obtain ⟨y, hy, ey⟩ := List.mem_map.mp hx2
        rw [← ey]
        exact hn0 y (List.mem_cons_of_mem _ hy)
      rw [good_at gw (no_clash hne hg.2)] at hc3
      have hk := good_kind gw
      show Lex l (i + g) (if isBad k = true then _ else (k, v, i + g + 1) :: dueL (i + g + t.length) ws is)
      rw [if_neg (by rw [hk]; exact Bool.false_ne_true)]
      have hx := Lex.word (ws := dueL (i + g + t.length) ws is) hc1 hc2 (by rw [hc3]; exact hk) (by
        rw [hc3]
        refine lex_all ws is t (i + g + t.length) hm2 hg.2 hr (fun w6 hw6 => hn0 w6 (List.mem_cons_of_mem _ hw6)) (fun w5 hw5 hb5 => hb w5 ?_ hb5) (drop_app hd2) ?_
        · cases ws with
          | nil => cases hw5
          | cons a b => rw [List.getLast?_cons_cons]; exact hw5
        · rw [← hlen]
          show i + g + t.length + (asm is ++ blanks e).length = i + (blanks g ++ (t ++ asm is) ++ blanks e).length
          simp only [List.length_append, blanks_len]
          omega)
      rw [hc3] at hx
      exact hx
    | @bad k o t0 r gw hr =>
      have ht : t = t0 := hm1
      subst ht
      obtain ⟨n1, n2, n3⟩ := bad_ne gw
      obtain ⟨c, hc1, hc2, hc3⟩ := key n1 n2
      have hk := bad_kind gw
      have is0 : ws = [] → is = [] := fun z => by
        subst z
        cases is with
        | nil => rfl
        | cons x r => cases hm2
      obtain ⟨b1, b2⟩ := bad_at (i := i + g) (s := asm is ++ blanks e) gw (fun he d hd5 => by
        rw [is0 (hr he)] at hd5
        exact blanks_mem e d hd5) (fun hbk => by
        have he : Ends k t := ⟨hbk.1, fun ⟨z1, _⟩ => by rw [hbk.2] at z1; cases z1⟩
        have w0 := hr he
        rw [is0 w0, hb (k, .int o, t) (by rw [w0]; rfl) hbk]
        rfl)
      rw [← hc3] at b1 b2
      show Lex l (i + g) (if isBad k = true then [(k, .int (o + ((i + g : Nat) : Int) + 1), i + g + 1)] else _)
      rw [if_pos hk]
      have hx := Lex.bad hc1 hc2 (by rw [b1]; exact hk)
      rw [b1, b2, ← Int.add_assoc] at hx
      exact hx
theorem lex_det {l : List Nat} : ∀ {i : Nat} {a b : List W3}, Lex l i a → Lex l i b → a = b := fun {i a b} h => by
  induction h generalizing b with
  | done h =>
    intro h2
    cases h2 with
    | done _ => rfl
    | blank h3 _ => exact absurd (List.getElem?_eq_some_iff.mp h3).1 (by omega)
    | word h3 _ _ _ => exact absurd (List.getElem?_eq_some_iff.mp h3).1 (by omega)
    | bad h3 _ _ => exact absurd (List.getElem?_eq_some_iff.mp h3).1 (by omega)
  | blank h _ ih =>
    intro h2
    cases h2 with
    | done h3 => exact absurd (List.getElem?_eq_some_iff.mp h).1 (by omega)
    | blank _ r => exact ih r
    | word h3 n _ _ => rw [h] at h3; exact absurd (Option.some.inj h3).symm n
    | bad h3 n _ => rw [h] at h3; exact absurd (Option.some.inj h3).symm n
  | word h n b1 _ ih =>
    intro h2
    cases h2 with
    | done h3 => exact absurd (List.getElem?_eq_some_iff.mp h).1 (by omega)
    | blank h3 r => rw [h] at h3; exact absurd (Option.some.inj h3) n
    | word h3 _ _ r => rw [ih r]
    | bad h3 _ b2 => rw [b1] at b2; cases b2
  | bad h n b1 =>
    intro h2
    cases h2 with
    | done h3 => exact absurd (List.getElem?_eq_some_iff.mp h).1 (by omega)
    | blank h3 r => rw [h] at h3; exact absurd (Option.some.inj h3) n
    | word h3 _ b2 r => rw [b1] at b2; cases b2
    | bad h3 _ _ => rfl
def wv (w : Wd) : List V := [.str w.1, w.2.1, .str (S w.2.2)]
def WOk (w : Wd) : Prop := GoodW w.1 w.2.1 w.2.2 ∨ ∃ o : Int, w.2.1 = .int o ∧ BadW w.1 o w.2.2
def AwAt (H : Hp) (aw : List (Addr × Wd)) : Prop := ∀ p ∈ aw, H p.1 = some (.tup (wv p.2))
theorem AwAt.tk {H H' : Hp} {aw : List (Addr × Wd)} (h : AwAt H aw) (s : Tk H H') : AwAt H' aw := fun p hp => s _ _ (h p hp)
theorem rw_aw {H : Hp} : ∀ {xs : List V}, (∀ v ∈ xs, RW v H) → ∃ aw : List (Addr × Wd), xs = aw.map (fun p => V.ref p.1) ∧ AwAt H aw ∧ ∀ p ∈ aw, GoodW p.2.1 p.2.2.1 p.2.2.2
  | [], _ => ⟨[], rfl, (fun _ h => nomatch h), (fun _ h => nomatch h)⟩
  | v :: xs, h => by
    obtain ⟨aw, e, h1, h2⟩ := rw_aw (xs := xs) fun u hu => h u (List.mem_cons_of_mem _ hu)
    obtain ⟨a, k, x, t, e1, e2, g⟩ := h v (List.mem_cons_self ..)
    refine ⟨(a, (k, x, t)) :: aw, by rw [e1, e]; rfl, fun p hp => ?_, fun p hp => ?_⟩
    · rcases List.mem_cons.mp hp with hp | hp
      · rw [hp]; exact e2
      · exact h1 p hp
    · rcases List.mem_cons.mp hp with hp | hp
      · rw [hp]; exact g
      · exact h2 p hp
theorem wsp_good : ∀ {a r : List Wd}, (∀ w ∈ a, GoodW w.1 w.2.1 w.2.2) → WsP r → WsP (a ++ r)
  | [], r, _, h => h
  | (k, v, t) :: a, r, h, hr => .good (h (k, v, t) (List.mem_cons_self ..)) (wsp_good (fun w hw => h w (List.mem_cons_of_mem _ hw)) hr)
theorem cut_to (xs : List V) (n : Nat) : cutV xs none (some (n : Int)) = xs.take n := by
  unfold cutV
  rw [HT.sIx_nat, HT.sIx_none]
  show (xs.take (min n xs.length - 0)) = _
  rw [Nat.sub_zero]
  by_cases h : n ≤ xs.length
  · rw [Nat.min_eq_left h]
  · rw [Nat.min_eq_right (by omega), List.take_of_length_le (Nat.le_refl _), List.take_of_length_le (by omega)]
theorem cut_from (xs : List V) (n : Nat) : cutV xs (some (n : Int)) none = xs.drop n := by
  unfold cutV
  rw [HT.sIx_nat, HT.sIx_none]
  by_cases h : n ≤ xs.length
  · rw [Nat.min_eq_left h, List.take_of_length_le (by rw [List.length_drop]; omega)]
  · rw [Nat.min_eq_right (by omega), List.drop_eq_nil_of_le (Nat.le_refl _), List.drop_eq_nil_of_le (by omega), List.take_nil]
theorem wok_ne {w : Wd} (h : WOk w) : w.2.2 ≠ [] ∧ w.2.2.length ≤ 30 := by
  rcases h with h | ⟨o, _, h⟩
  · exact ⟨(good_ne h).1, (good_ne h).2.2⟩
  · exact ⟨(bad_ne h).1, (bad_ne h).2.2⟩
theorem in_good {k : Str} {v : V} {t : List Nat} (g : GoodW k v t) : inV (.str k) [.str "bad number", .str "bad quoted", .str "bad sign"] = false := by
  cases g <;> decide +kernel
theorem in_bad {k : Str} {o : Int} {t : List Nat} (g : BadW k o t) : inV (.str k) [.str "bad number", .str "bad quoted", .str "bad sign"] = true := by
  cases g <;> decide +kernel
def DwAt (H : Hp) (dw : List (Addr × W3)) : Prop := ∀ x ∈ dw, H x.1 = some (.tup (w3V x.2))
theorem dueL_good {n g : Nat} {k : Str} {v : V} {t u : List Nat} {ws : List Wd} {is : List (Nat × List Nat)} (h : isBad k = false) : dueL n ((k, v, u) :: ws) ((g, t) :: is) = (k, v, n + g + 1) :: dueL (n + g + t.length) ws is := by
  show (if isBad k = true then _ else _) = _
  rw [if_neg (by rw [h]; exact Bool.false_ne_true)]
theorem dueL_bad {n g : Nat} {k : Str} {o : Int} {t u : List Nat} {ws : List Wd} {is : List (Nat × List Nat)} (h : isBad k = true) : dueL n ((k, .int o, u) :: ws) ((g, t) :: is) = [(k, .int (o + ((n + g : Nat) : Int) + 1), n + g + 1)] := by
  show (if isBad k = true then _ else _) = _
  rw [if_pos h]
theorem quo_at {w s : List Nat} {i : Nat} (h2 : ∀ c ∈ w, c ∈ signsL) : wOf i (quoteL w ++ s) = (("quoted", V.str (S w), i + (quoteL w).length) : W3) := by
  show wOf i (34 :: (w.flatMap esc1 ++ [34] ++ s)) = _
  rw [wOf_cons, if_neg (by decide), if_neg (by decide), if_pos rfl, List.append_assoc, qRead_esc i w _ [] (i + 1) h2]
  show qRead i (34 :: s) _ _ = _
  rw [qRead_cons, if_pos rfl]
  have e : i + 1 + (w.flatMap esc1).length + 1 = i + (quoteL w).length := by
    show _ = i + ((w.flatMap esc1 ++ [34]).length + 1)
    rw [List.length_append]
    show _ = i + (_ + 1 + 1)
    omega
  rw [e]
  rfl
theorem lex_quoted {w : List Nat} (h : ∀ c ∈ w, c ∈ signsL) : Lex (quoteL w) 0 [("quoted", .str (S w), 1)] := by
  have e : wAt (quoteL w) 0 = (("quoted", V.str (S w), 0 + (quoteL w).length) : W3) := by
    have z := quo_at (s := []) (i := 0) h
    rw [List.append_nil] at z
    rw [← z]
    exact wAt_of rfl (List.cons_ne_nil _ _)
  have hx := Lex.word (l := quoteL w) (i := 0) (c := 34) (ws := []) rfl (by decide) (by rw [e]; show isBad "quoted" = false; decide +kernel) (by rw [e]; exact .done (by show _ ≤ 0 + _; omega))
  rw [e] at hx
  exact hx
end
end Vf

set_option maxRecDepth 100000
set_option maxHeartbeats 4000000
namespace Vf
open PySem PySem.Spec PyProof.Rows L2 SX
section
variable {P : Program} {w : World} {K : PySem.W.Frag} {mg : Str → Option Value} {base : Heap}
theorem beqD {α : Type} [BEq α] [LawfulBEq α] [DecidableEq α] (a b : α) : (a == b) = decide (a = b) := by
  by_cases e : a = b
  · subst e; rw [decide_eq_true rfl]; exact beq_self_eq_true _
  · rw [decide_eq_false e]; exact beq_eq_false_iff_ne.mpr e
theorem eqT_pl (p q : Pt) (n m : Bool) : eqT (.pl p n) (.pl q m) = (decide (p.1 = q.1) && (PyData.eqv (vD p.2) (vD q.2) && decide (n = m))) := by
  show PyData.eqv (cD p .none .none n) (cD q .none .none m) = _
  unfold cD
  simp [PyData.eqv, PyData.eqvAll, beqD]
theorem eqT_rg (p q p' q' : Pt) (n m : Bool) : eqT (.rg p q n) (.rg p' q' m) = (eqT (.pl p false) (.pl p' false) && (eqT (.pl q false) (.pl q' false) && decide (n = m))) := by
  show PyData.eqv (cD ("from", .non) (cD p .none .none false) (cD q .none .none false) n) (cD ("from", .non) (cD p' .none .none false) (cD q' .none .none false) m) = (PyData.eqv (cD p .none .none false) (cD p' .none .none false) && (PyData.eqv (cD q .none .none false) (cD q' .none .none false) && _))
  rw [show cD ("from", .non) (cD p .none .none false) (cD q .none .none false) n = .tuple [.str "from", .none, cD p .none .none false, cD q .none .none false, .bool n] from rfl, show cD ("from", .non) (cD p' .none .none false) (cD q' .none .none false) m = .tuple [.str "from", .none, cD p' .none .none false, cD q' .none .none false, .bool m] from rfl]
  simp [PyData.eqv, PyData.eqvAll, beqD]
theorem eqT_plrg {p q q' : Pt} {n m : Bool} (h : OkP p) : eqT (.pl p n) (.rg q q' m) = false := by
  show PyData.eqv (.tuple [.str p.1, vD p.2, .none, .none, .bool n]) (.tuple [.str "from", .none, cD q .none .none false, cD q' .none .none false, .bool m]) = false
  have : (p.1 == ("from" : Str)) = false := beq_eq_false_iff_ne.mpr h.nf
  simp [PyData.eqv, PyData.eqvAll, this]
theorem eqv_head (a b : PyData) (as bs : List PyData) : PyData.eqv (.tuple (a :: as)) (.tuple (b :: bs)) = (PyData.eqv a b && PyData.eqvAll as bs) := by rw [PyData.eqv, PyData.eqvAll]
theorem eqT_rgpl {p q q' : Pt} {n m : Bool} (h : OkP p) : eqT (.rg q q' m) (.pl p n) = false := by
  show PyData.eqv (.tuple [.str "from", .none, cD q .none .none false, cD q' .none .none false, .bool m]) (.tuple [.str p.1, vD p.2, .none, .none, .bool n]) = false
  rw [eqv_head, PyData.eqv, beq_eq_false_iff_ne.mpr fun z => h.nf z.symm, Bool.false_and]
theorem strOk_S {l : List Nat} (h : ∀ c ∈ l, c < 1000) : PyData.strOk (S l) = true := by
  unfold PyData.strOk
  show l.toArray.all _ = true
  rw [List.all_toArray]
  exact List.all_eq_true.mpr fun c hc => decide_eq_true (by have := h c hc; omega)
theorem sg_ok {l : List Nat} (h : ∀ c ∈ l, c ∈ signsL) : PyData.strOk (S l) = true := strOk_S fun c hc => (show ∀ c ∈ signsL, c < 1000 by decide) c (h c hc)
/-- a scalar's data -/
theorem sc_dp {K : PySem.W.Frag} {H : Hp} {p : Pt} (h : OkP p) : Dp K H p.2 (vD p.2) ∧ SeqAt.shaped (vD p.2) = true := by
  cases h with
  | @wd k t h h1 h2 => exact ⟨.str _, by
      have := sg_ok fun c hc => (h2 c hc).1
      simp [SeqAt.shaped, vD, PyData.canLay0, PyData.depth, this]⟩
  | sh h => exact ⟨.int _, by simp [SeqAt.shaped, vD, PyData.canLay0, PyData.depth]⟩
  | nu h1 h2 => exact ⟨.int _, by simp [SeqAt.shaped, vD, PyData.canLay0, PyData.depth]⟩
  | ba h => exact ⟨.non, by simp [SeqAt.shaped, vD, PyData.canLay0, PyData.depth]⟩

end
end Vf

set_option maxRecDepth 100000
set_option maxHeartbeats 4000000
namespace Vf
open PySem PySem.Spec PyProof.Rows L2 SX
section
variable {P : Program} {w : World} {K : PySem.W.Frag} {mg : Str → Option Value} {base : Heap}
theorem ify {c : Bool} {A B : Prop} (h : c = true) (x : A) : if c = true then A else B := by rw [if_pos h]; exact x
theorem ifn {c : Bool} {A B : Prop} (h : c = false) (x : B) : if c = true then A else B := by rw [if_neg (by rw [h]; exact Bool.false_ne_true)]; exact x
section
variable {ls : List Str} {i : Nat} {y : Str} {l : Str} (hl : ls.getD i "" = l)
include hl
theorem plT_begins : plT ("begins", .str y) ls i = Txt.startswith l y := by
  unfold plT; rw [if_pos rfl, hl]
theorem plT_ends : plT ("ends", .str y) ls i = Txt.endswith l y := by
  unfold plT; rw [if_neg (by dsimp only; decide), if_pos rfl, hl]
theorem plT_has : plT ("has", .str y) ls i = !(Builtin.Str.occurrences l y 0 l.length 1).isEmpty := by
  unfold plT; rw [if_neg (by dsimp only; decide), if_neg (by dsimp only; decide), if_pos rfl, hl]
theorem plT_is {v : V} : plT ("is", v) ls i = decide (V.str l = v) := by
  unfold plT; rw [if_neg (by dsimp only; decide), if_neg (by dsimp only; decide), if_neg (by dsimp only; decide), if_pos rfl, hl]
theorem plT_short {n : Int} : plT ("short", .int n) ls i = decide ((l.length : Int) ≤ n) := by
  unfold plT; rw [if_neg (by dsimp only; decide), if_neg (by dsimp only; decide), if_neg (by dsimp only; decide), if_neg (by dsimp only; decide), if_pos rfl, hl]
end
theorem plT_number {ls : List Str} {i : Nat} {v : V} : plT ("number", v) ls i = decide (V.int ((i : Int) + 1) = v) := by
  unfold plT; rw [if_neg (by dsimp only; decide), if_neg (by dsimp only; decide), if_neg (by dsimp only; decide), if_neg (by dsimp only; decide), if_neg (by dsimp only; decide), if_pos rfl]
theorem plT_last {ls : List Str} {i : Nat} {v : V} : plT ("last", v) ls i = decide (V.int ((i : Int) + 1) = V.int (ls.length : Int)) := by
  unfold plT; rw [if_neg (by dsimp only; decide), if_neg (by dsimp only; decide), if_neg (by dsimp only; decide), if_neg (by dsimp only; decide), if_neg (by dsimp only; decide), if_neg (by dsimp only; decide), if_pos rfl]
theorem plT_all {ls : List Str} {i : Nat} {v : V} : plT ("all", v) ls i = true := by
  unfold plT; rw [if_neg (by dsimp only; decide), if_neg (by dsimp only; decide), if_neg (by dsimp only; decide), if_neg (by dsimp only; decide), if_neg (by dsimp only; decide), if_neg (by dsimp only; decide), if_neg (by dsimp only; decide)]
theorem ls_at {ls : List Str} {i : Nat} (hi : i < ls.length) : atI (ls.map V.str) (i : Int) = some (.str (ls[i])) ∧ ls.getD i "" = ls[i] := by
  refine ⟨atI_nat (by rw [List.getElem?_map, List.getElem?_eq_getElem hi]; rfl), ?_⟩
  rw [List.getD_eq_getElem?_getD, List.getElem?_eq_getElem hi]
  rfl

end
end Vf

set_option maxRecDepth 100000
set_option maxHeartbeats 4000000
namespace Vf
open PySem PySem.Spec PyProof.Rows L2 SX
section
variable {P : Program} {w : World} {K : PySem.W.Frag} {mg : Str → Option Value} {base : Heap}
theorem tyx_sm {K : PySem.W.Frag} {H H' : Hp} (s : Same H H') {x : V} {t : Value} (h : TyX K H x t) : TyX K H' x t := by
  cases h with
  | base b =>
    refine .base ?_
    cases b with
    | non => exact .non
    | bl x => exact .bl x
    | int i => exact .int i
    | str x => exact .str x
    | flt x => exact .flt x
    | lst e => exact .lst (s _ _ e)
    | frz e => exact .frz (s _ _ e)
    | tup e => exact .tup (s _ _ e)
    | dK e => exact .dK (s _ _ e)
    | dT e => exact .dT (s _ _ e)
    | ins e cl ha hn htk hm => exact .ins (s _ _ e) cl ha hn htk hm
  | byt b => exact .byt b
  | set e => exact .set (s _ _ e)
  | kList e c => exact .kList e c
  | kTuple e c => exact .kTuple e c
  | kDict e c => exact .kDict e c
  | fTuple e => exact .fTuple (s _ _ e)
  | fDict e => exact .fDict (s _ _ e)
theorem NotStr.sm {K : PySem.W.Frag} {H H' : Hp} {x : V} (h : NotStr K H x) (s : Same H H') : NotStr K H' x := let ⟨t, a, b⟩ := h; ⟨t, tyx_sm s a, b⟩
theorem Whole.sm {K : PySem.W.Frag} {H H' : Hp} {x : V} {r : Bool} (h : Whole K H x r) (s : Same H H') : Whole K H' x r := let ⟨t, b1, b2, a, b, c, d⟩ := h; ⟨t, b1, b2, tyx_sm s a, b, c, d⟩
abbrev l4 : List V := [.str "begins", .str "ends", .str "has", .str "is"]
abbrev l2 : List V := [.str "short", .str "number"]
abbrev lB : List V := [.str "all", .str "last"]
abbrev l8 : List V := [.str "begins", .str "ends", .str "has", .str "is", .str "short", .str "number", .str "all", .str "last"]
theorem cl_w {k : Str} (h : isW k) : inV (.str k) l8 = true ∧ inV (.str k) l4 = true ∧ inV (.str k) l2 = false ∧ inV (.str k) lB = false := by
  rcases h with h | h | h | h <;> subst h <;> decide
theorem cl_n {k : Str} (h : k = "short" ∨ k = "number") : inV (.str k) l8 = true ∧ inV (.str k) l4 = false ∧ inV (.str k) l2 = true ∧ inV (.str k) lB = false := by
  rcases h with h | h <;> subst h <;> decide
theorem cl_b {k : Str} (h : k = "all" ∨ k = "last") : inV (.str k) l8 = true ∧ inV (.str k) l4 = false ∧ inV (.str k) l2 = false ∧ inV (.str k) lB = true := by
  rcases h with h | h <;> subst h <;> decide
theorem okp_cl {p : Pt} (h : OkP p) : (isW p.1 ∧ ∃ l, p.2 = .str (S l) ∧ l.length ≤ 100000 ∧ lw l = true) ∨ ((∃ lo hi : Int, ((p.1 = "short" ∧ lo = 0 ∧ hi = 40) ∨ (p.1 = "number" ∧ lo = 1 ∧ hi = 6)) ∧ ∃ i : Int, p.2 = .int i ∧ lo ≤ i ∧ i ≤ hi)) ∨ ((p.1 = "all" ∨ p.1 = "last") ∧ p.2 = .non) := by
  cases h with
  | @wd k t h h1 h2 =>
    refine .inl ⟨h, t, rfl, by omega, ?_⟩
    unfold lw
    have a : t.all isS = true := List.all_eq_true.mpr fun c hc => decide_eq_true (h2 c hc).1
    have b : decide (10 ∈ t) = false := decide_eq_false fun z => (h2 10 z).2 rfl
    rw [a, b, decide_eq_true h1]
    rfl
  | @sh n h => exact .inr (.inl ⟨0, 40, .inl ⟨rfl, rfl, rfl⟩, n, rfl, by omega, by omega⟩)
  | @nu n h1 h2 => exact .inr (.inl ⟨1, 6, .inr ⟨rfl, rfl, rfl⟩, n, rfl, by omega, by omega⟩)
  | ba h => exact .inr (.inr ⟨h, rfl⟩)
/-- the first question: is it a test's word -/
theorem pt_one {K : PySem.W.Frag} {H : Hp} {x g : V} {o : Option Er} (h : PtR K H x g o) : (NotStr K H x ∧ o = some (.word "test")) ∨ (∃ k, x = .str k ∧ inV (.str k) l8 = false ∧ o = some (.word "test")) ∨ ∃ k, x = .str k ∧ inV (.str k) l8 = true := by
  cases h with
  | @ok p h => exact .inr (.inr ⟨_, rfl, (okp_cl h).elim (fun z => (cl_w z.1).1) fun z => z.elim (fun ⟨_, _, z, _⟩ => (cl_n (z.elim (fun z => .inl z.1) fun z => .inr z.1)).1) fun z => (cl_b z.1).1⟩)
  | noText h => exact .inl ⟨h, rfl⟩
  | noTest h => exact .inr (.inl ⟨_, rfl, h, rfl⟩)
  | noWord h h2 => exact .inr (.inr ⟨_, rfl, (cl_w h).1⟩)
  | noNum h h2 => exact .inr (.inr ⟨_, rfl, (cl_n (h.elim (fun z => .inl z.1) fun z => .inr z.1)).1⟩)
  | noBare h h2 => exact .inr (.inr ⟨_, rfl, (cl_b h).1⟩)
/-- the others, of a test's word -/
theorem pt_two {K : PySem.W.Frag} {H : Hp} {k : Str} {g : V} {o : Option Er} (h : PtR K H (.str k) g o) (h8 : inV (.str k) l8 = true) :
    (inV (.str k) l4 = true ∧ inV (.str k) l2 = false ∧ inV (.str k) lB = false ∧ (((NotStr K H g ∨ ∃ l, g = .str (S l) ∧ l.length ≤ 100000 ∧ lw l = false) ∧ o = some (.word "argument")) ∨ ((∃ l, g = .str (S l) ∧ l.length ≤ 100000 ∧ lw l = true) ∧ o = none))) ∨
    (inV (.str k) l4 = false ∧ inV (.str k) l2 = true ∧ inV (.str k) lB = false ∧ ∃ lo hi : Int, ((k = "short" ∧ lo = 0 ∧ hi = 40) ∨ (k = "number" ∧ lo = 1 ∧ hi = 6)) ∧ (((Whole K H g false ∨ ∃ i : Int, g = .int i ∧ (i < lo ∨ hi < i)) ∧ o = some (.num k g)) ∨ ((∃ i : Int, g = .int i ∧ lo ≤ i ∧ i ≤ hi) ∧ o = none))) ∨
    (inV (.str k) l4 = false ∧ inV (.str k) l2 = false ∧ inV (.str k) lB = true ∧ ((g ≠ .non ∧ o = some (.word "argument")) ∨ (g = .non ∧ o = none))) := by
  have noP : ∀ {a b : Str}, V.str a = V.str b → a = b := fun z => V.str.inj z
  generalize hx : V.str k = x at h
  cases h with
  | @ok p h =>
    obtain rfl : k = p.1 := noP hx
    rcases okp_cl h with ⟨z, y⟩ | ⟨lo, hi, z, y⟩ | ⟨z, y⟩
    · obtain ⟨_, c1, c2, c3⟩ := cl_w z
      exact .inl ⟨c1, c2, c3, .inr ⟨y, rfl⟩⟩
    · obtain ⟨_, c1, c2, c3⟩ := cl_n (z.elim (fun z => .inl z.1) fun z => .inr z.1)
      exact .inr (.inl ⟨c1, c2, c3, lo, hi, z, .inr ⟨y, rfl⟩⟩)
    · obtain ⟨_, c1, c2, c3⟩ := cl_b z
      exact .inr (.inr ⟨c1, c2, c3, .inr ⟨y, rfl⟩⟩)
  | noText h =>
    subst hx
    obtain ⟨t, ty, e⟩ := h
    exfalso
    cases ty with
    | base b =>
      cases b with
      | str x =>
        have : PySem.W.kitOne K (.type "str") (.type "str") = some true := kit_ty (by decide +kernel)
        rw [this] at e
        cases e
  | noTest h =>
    obtain rfl := noP hx
    rw [h] at h8
    cases h8
  | noWord h h2 =>
    obtain rfl := noP hx
    obtain ⟨_, c1, c2, c3⟩ := cl_w h
    exact .inl ⟨c1, c2, c3, .inl ⟨h2, rfl⟩⟩
  | noNum h h2 =>
    obtain rfl := noP hx
    obtain ⟨_, c1, c2, c3⟩ := cl_n (h.elim (fun z => .inl z.1) fun z => .inr z.1)
    exact .inr (.inl ⟨c1, c2, c3, _, _, h, .inl ⟨h2, rfl⟩⟩)
  | noBare h h2 =>
    obtain rfl := noP hx
    obtain ⟨_, c1, c2, c3⟩ := cl_b h
    exact .inr (.inr ⟨c1, c2, c3, .inl ⟨h2, rfl⟩⟩)
/-- a new instance beside what stands -/
theorem made_same {H0 H : Hp} {a dx C : Addr} {fs fs' : List (Str × V)} (s : Same H0 H) (h1 : H a = none) (h2 : H dx = none) : Same H0 (upd (upd (upd H dx (.own a)) a (.ins C dx fs)) a (.ins C dx fs')) := fun b o e => by
  have e' := s b o e
  rw [upd_ne (ne_of_none e' h1), upd_ne (ne_of_none e' h1), upd_ne (ne_of_none e' h2)]
  exact e'

end
end Vf

set_option maxRecDepth 100000
set_option maxHeartbeats 4000000
namespace Vf
open PySem PySem.Spec PyProof.Rows L2 SX
section
variable {P : Program} {w : World} {K : PySem.W.Frag} {mg : Str → Option Value} {base : Heap}
def Tst.sg (b : Bool) : Tst → Tst
  | .pl p _ => .pl p b
  | .rg p q _ => .rg p q b
theorem OkT.sg {t : Tst} (h : OkT t) (b : Bool) : OkT (t.sg b) := by cases t <;> exact h
def ckL : Tst → V → V → List V
  | .pl p n, _, _ => cT p .non .non n
  | .rg _ _ n, x, y => cT ("from", .non) x y n
theorem ck_l {H : Hp} {a : Addr} : ∀ {t : Tst}, CkAt H a t → ∃ (p : Pt) (x y : V), H a = some (.tup (cT p x y t.neg)) ∧ ∀ (b : Bool) (H' : Hp) (a' : Addr), Tk H H' → H' a' = some (.tup (cT p x y b)) → CkAt H' a' (t.sg b)
  | .pl p n, h => ⟨p, .non, .non, h, fun _ _ _ _ h' => h'⟩
  | .rg p q n, ⟨b, c, h, h1, h2⟩ => ⟨("from", .non), .ref b, .ref c, h, fun _ _ _ k h' => ⟨b, c, h', k _ _ h1, k _ _ h2⟩⟩

end
end Vf

set_option maxRecDepth 100000
set_option maxHeartbeats 4000000
namespace Vf
open PySem PySem.Spec PyProof.Rows L2 SX
section
variable {P : Program} {w : World} {K : PySem.W.Frag} {mg : Str → Option Value} {base : Heap}
theorem eqv_vD {p : Pt} (h : OkP p) : PyData.eqv (vD p.2) (vD p.2) = true := by
  rcases okp_cl h with ⟨_, l, e, _⟩ | ⟨_, _, _, j, e, _⟩ | ⟨_, e⟩ <;> rw [e] <;> simp [vD, PyData.eqv]
theorem eqT_self {p : Pt} (h : OkP p) (n : Bool) : eqT (.pl p n) (.pl p n) = true := by
  rw [eqT_pl, eqv_vD h, decide_eq_true rfl, decide_eq_true rfl]; rfl
theorem w_ok {k : Str} (h : isW k ∨ k = "short" ∨ k = "number" ∨ k = "all" ∨ k = "last" ∨ k = "from") : PyData.strOk k = true := by
  rcases h with (h | h | h | h) | h | h | h | h | h <;> subst h <;> decide +kernel
theorem okp_w {p : Pt} (h : OkP p) : PyData.strOk p.1 = true := by
  rcases okp_cl h with ⟨z, _⟩ | ⟨_, _, z, _⟩ | ⟨z, _⟩
  · exact w_ok (.inl z)
  · exact w_ok (.inr (z.elim (fun z => .inl z.1) fun z => .inr (.inl z.1)))
  · exact w_ok (.inr (.inr (.inr (z.elim .inl fun z => .inr (.inl z)))))
theorem shap3 {a b : PyData} {n : Bool} (ha : PyData.canLay0 a = true) (hb : PyData.canLay0 b = true) (da : a.depth ≤ 1) (db : b.depth ≤ 1) : SeqAt.shaped (.tuple [a, b, .bool n]) = true := by
  simp [SeqAt.shaped, PyData.canLay0, PyData.canLayAll0, PyData.depth, PyData.depthAll, ha, hb]
  omega
theorem sd_vD {p : Pt} (h : OkP p) : PyData.canLay0 (vD p.2) = true ∧ (vD p.2).depth ≤ 1 := by
  refine ⟨SeqAt.canLay_of_shaped (sc_dp (K := default) (H := fun _ => none) h).2, ?_⟩
  rcases okp_cl h with ⟨_, l, e, _⟩ | ⟨_, _, _, j, e, _⟩ | ⟨_, e⟩ <;> rw [e] <;> simp [vD, PyData.depth]
theorem sh_str {k : Str} (h : PyData.strOk k = true) : PyData.canLay0 (.str k) = true ∧ (PyData.str k).depth ≤ 1 := by simp [PyData.canLay0, PyData.depth, h]
theorem eqv3 {a : Str} {b : PyData} {n : Bool} (h : PyData.eqv b b = true) : PyData.eqv (.tuple [.str a, b, .bool n]) (.tuple [.str a, b, .bool n]) = true := by simp [PyData.eqv, PyData.eqvAll, h]
/-- two tuples of the same three are the same -/
theorem ne_three {K : PySem.W.Frag} {H1 : Hp} {L1 L2 : Addr} {k : Str} {v : V} {n : Bool} {d : PyData} (hk : PyData.strOk k = true) (hd : ∀ H, Dp K H v d) (hc : PyData.canLay0 d = true ∧ d.depth ≤ 1) (he : PyData.eqv d d = true) (n2 : upd H1 L1 (.tup [.str k, v, .bl n]) L2 = none) :
    Dp K (upd (upd H1 L1 (.tup [.str k, v, .bl n])) L2 (.tup [.str k, v, .bl n])) (.ref L1) (.tuple [.str k, d, .bool n]) ∧ Dp K (upd (upd H1 L1 (.tup [.str k, v, .bl n])) L2 (.tup [.str k, v, .bl n])) (.ref L2) (.tuple [.str k, d, .bool n]) ∧ SeqAt.shaped (.tuple [.str k, d, .bool n]) = true ∧ PyData.eqv (.tuple [.str k, d, .bool n]) (.tuple [.str k, d, .bool n]) = true := by
  have a : DpAll K (upd (upd H1 L1 (.tup [.str k, v, .bl n])) L2 (.tup [.str k, v, .bl n])) [.str k, v, .bl n] [.str k, d, .bool n] := .cons (.str _) (.cons (hd _) (.cons (.bl _) .nil))
  exact ⟨.tup (SqT.of (by show upd _ L2 _ L1 = _; rw [upd_ne (ne_of_none (upd_same) n2)]; exact upd_same)) a, .tup (SqT.of upd_same) a, shap3 (sh_str hk).1 hc.1 (sh_str hk).2 hc.2, eqv3 he⟩
theorem ok_isTestP {f : Addr} {fd : FuncData} (F : C8.Def K mg "_law_is_test" s_isTest f fd) (b : Binds K fd ["_law_made", "_law_check"] []) (T : Tx K w mg) {CL : Addr} (A0 : Ca K CL) : C8.Cal P w K mg base 1 "_law_is_test" (sp_isTestP CL) [] := by
  refine C8.cal0 F b .nil sc_isTest (fun vs H Q E h => ?_) (fun cdv A outer s H vs Q E hr h => ?_)
  · obtain ⟨o, a, p, n, rfl, _⟩ := h; rfl
  have hu := hu_of hr
  refine ⟨_, (pss_cons (ps_asg (pv 1) (pg_tup (by rfl) (pgs_cons (pg_name (i := 2) sc_isTest.nd rfl (Or.inl rfl)) (pgs_cons (pg_name (i := 3) sc_isTest.nd rfl (Or.inl rfl)) (pgs_cons (pg_name (i := 4) sc_isTest.nd rfl (Or.inl rfl)) (pgs_cons (pg_name (i := 5) sc_isTest.nd rfl (Or.inl rfl)) (pgs_cons (pg_name (i := 6) sc_isTest.nd rfl (Or.inl rfl)) pgs_nil)))))))
      (C8.pss_cut (ps_if (PW.pt (pw_or (pt_cmpR (op_neD hr.units) (pe_tup (pa_cons (pe_fld (pv 0) rfl) (pa_cons (pe_fld (pv 0) rfl) (pa_cons (pe_fld (pv 0) rfl) pa_nil)))) (pe_tup (pa_cons (pv 2) (pa_cons (pv 3) (pa_cons (pv 6) pa_nil)))) (nomark _)) (pw_or1 (pt_not (pt_val (pe_callB call_isi (by rfl) T.z_isinstance (by decide +kernel) (pa_cons (pe_fld (pv 0) rfl) (pa_cons (pe_bltn (v := .ty "bool") (by rfl) T.z_bool (by decide +kernel) rfl) pa_nil))))))))
      (pss_one (ps_ret pe_bl))
      pss_nil)
      (pss_cons (ps_if (pt_cmpR op_ne (pv 2) pe_str (nomark _))
      (pss_one (ps_ret (pe_and (pe_cmpR op_isN (pe_fld (pv 0) rfl) pe_non (nomark _)) (pe_one (pe_cmpR op_isN (pe_fld (pv 0) rfl) pe_non (nomark _))))))
      pss_nil)
      (pss_one ps_never)))), ?_⟩
  obtain ⟨o, a, p, n, rfl, ⟨dx, ho⟩, ck, op, q⟩ := h
  have cl := A0.i.cl
  refine ⟨_, rfl, a, _, rfl, SqT.of ck, rfl, _, _, rfl, _, _, rfl, _, _, rfl, _, _, rfl, _, _, rfl, rfl, ?_⟩
  refine ⟨fun σ' H' => σ' = [some (.ref o), some (.ref a), some (.str p.1), some p.2, some .non, some .non, some (.bl n)] ∧ Same H H', ?_, ?_⟩
  · refine ⟨_, rfl, o, CL, dx, _, _, rfl, ho, cl, A0.a1, rfl, _, rfl, o, CL, dx, _, _, rfl, ho, cl, A0.a2, rfl, _, rfl, o, CL, dx, _, _, rfl, ho, cl, A0.a5, rfl, szB (by show 3 ≤ 1000000; decide), fun L1 n1 => ?_⟩
    have s2 := same_new (Same.refl H) n1 (.tup [.str p.1, p.2, .bl n])
    refine ⟨_, rfl, _, rfl, _, rfl, szB (by show 3 ≤ 1000000; decide), fun L2 n2 => ?_⟩
    have D := ne_three (K := K) (n := n) (okp_w op) (fun H => (sc_dp op).1) (sd_vD op) (eqv_vD op) n2
    refine ⟨_, _, D.1, D.2.1, D.2.2.1, D.2.2.1, ?_⟩
    rw [D.2.2.2]
    refine ⟨_, rfl, ifn rfl ?_⟩
    have s3 := same_new s2 n2 (.tup [.str p.1, p.2, .bl n])
    refine ⟨_, rfl, o, CL, dx, _, _, rfl, s3 _ _ ho, cl, A0.a5, rfl, _, _, _, _, true, rfl, .ty "bool", .base (.bl _), kit_ty (by decide +kernel), true, rfl, ?_⟩
    exact ifn rfl ⟨rfl, s3⟩
  rintro σ' H1 ⟨rfl, s1⟩
  refine ⟨_, rfl, rfl, _, rfl, ify (by rw [decide_eq_false fun z => op.nf (V.str.inj z)]; rfl) ?_⟩
  refine ⟨_, rfl, o, CL, dx, _, _, rfl, s1 _ _ ho, cl, A0.a3, rfl, rfl, _, rfl, ifT ?_⟩
  exact ⟨_, rfl, o, CL, dx, _, _, rfl, s1 _ _ ho, cl, A0.a4, rfl, rfl, q _ s1⟩
theorem ok_isTest {f : Addr} {fd : FuncData} (F : C8.Def K mg "_law_is_test" s_isTest f fd) (b : Binds K fd ["_law_made", "_law_check"] []) (T : Tx K w mg) {CL : Addr} (A0 : Ca K CL) (C_isTest : C8.Cal P w K mg base 1 "_law_is_test" (sp_isTestP CL) []) : C8.Cal P w K mg base 2 "_law_is_test" (sp_isTest CL) [] := by
  refine C8.cal0 F b .nil sc_isTest (fun vs H Q E h => ?_) (fun cdv A outer s H vs Q E hr h => ?_)
  · obtain ⟨o, a, t, rfl, _⟩ := h; rfl
  have hu := hu_of hr
  refine ⟨_, (pss_cons (ps_asg (pv 1) (pg_tup (by rfl) (pgs_cons (pg_name (i := 2) sc_isTest.nd rfl (Or.inl rfl)) (pgs_cons (pg_name (i := 3) sc_isTest.nd rfl (Or.inl rfl)) (pgs_cons (pg_name (i := 4) sc_isTest.nd rfl (Or.inl rfl)) (pgs_cons (pg_name (i := 5) sc_isTest.nd rfl (Or.inl rfl)) (pgs_cons (pg_name (i := 6) sc_isTest.nd rfl (Or.inl rfl)) pgs_nil)))))))
      (C8.pss_cut (ps_if (PW.pt (pw_or (pt_cmpR (op_neD hr.units) (pe_tup (pa_cons (pe_fld (pv 0) rfl) (pa_cons (pe_fld (pv 0) rfl) (pa_cons (pe_fld (pv 0) rfl) pa_nil)))) (pe_tup (pa_cons (pv 2) (pa_cons (pv 3) (pa_cons (pv 6) pa_nil)))) (nomark _)) (pw_or1 (pt_not (pt_val (pe_callB call_isi (by rfl) T.z_isinstance (by decide +kernel) (pa_cons (pe_fld (pv 0) rfl) (pa_cons (pe_bltn (v := .ty "bool") (by rfl) T.z_bool (by decide +kernel) rfl) pa_nil))))))))
      (pss_one (ps_ret pe_bl))
      pss_nil)
      (pss_cons (ps_if (pt_cmpR op_ne (pv 2) pe_str (nomark _))
      (pss_one (ps_ret (pe_and (pe_cmpR op_isN (pe_fld (pv 0) rfl) pe_non (nomark _)) (pe_one (pe_cmpR op_isN (pe_fld (pv 0) rfl) pe_non (nomark _))))))
      pss_nil)
      (pss_one (ps_ret (pe_and (C8.pe_c C_isTest hr (by decide) rfl (pa_cons (pe_fld (pv 0) rfl) (pa_cons (pv 4) pa_nil))) (pe_one (C8.pe_c C_isTest hr (by decide) rfl (pa_cons (pe_fld (pv 0) rfl) (pa_cons (pv 5) pa_nil)))))))))), ?_⟩
  obtain ⟨o, a, tt, rfl, ts, ck, op, q⟩ := h
  have cl := A0.i.cl
  match tt, ck, op, ts with
  | .pl p n, ck, op, ⟨dx, ho⟩ =>
    refine ⟨_, rfl, a, _, rfl, SqT.of ck, rfl, _, _, rfl, _, _, rfl, _, _, rfl, _, _, rfl, _, _, rfl, rfl, ?_⟩
    refine ⟨fun σ' H' => σ' = [some (.ref o), some (.ref a), some (.str p.1), some p.2, some .non, some .non, some (.bl n)] ∧ Same H H', ?_, ?_⟩
    · refine ⟨_, rfl, o, CL, dx, _, _, rfl, ho, cl, A0.a1, rfl, _, rfl, o, CL, dx, _, _, rfl, ho, cl, A0.a2, rfl, _, rfl, o, CL, dx, _, _, rfl, ho, cl, A0.a5, rfl, szB (by show 3 ≤ 1000000; decide), fun L1 n1 => ?_⟩
      have s2 := same_new (Same.refl H) n1 (.tup [.str p.1, p.2, .bl n])
      refine ⟨_, rfl, _, rfl, _, rfl, szB (by show 3 ≤ 1000000; decide), fun L2 n2 => ?_⟩
      have D := ne_three (K := K) (n := n) (okp_w op) (fun H => (sc_dp op).1) (sd_vD op) (eqv_vD op) n2
      refine ⟨_, _, D.1, D.2.1, D.2.2.1, D.2.2.1, ?_⟩
      rw [D.2.2.2]
      refine ⟨_, rfl, ifn rfl ?_⟩
      have s3 := same_new s2 n2 (.tup [.str p.1, p.2, .bl n])
      refine ⟨_, rfl, o, CL, dx, _, _, rfl, s3 _ _ ho, cl, A0.a5, rfl, _, _, _, _, true, rfl, .ty "bool", .base (.bl _), kit_ty (by decide +kernel), true, rfl, ?_⟩
      exact ifn rfl ⟨rfl, s3⟩
    rintro σ' H1 ⟨rfl, s1⟩
    refine ⟨_, rfl, rfl, _, rfl, ify (by rw [decide_eq_false fun z => op.nf (V.str.inj z)]; rfl) ?_⟩
    refine ⟨_, rfl, o, CL, dx, _, _, rfl, s1 _ _ ho, cl, A0.a3, rfl, rfl, _, rfl, ifT ?_⟩
    exact ⟨_, rfl, o, CL, dx, _, _, rfl, s1 _ _ ho, cl, A0.a4, rfl, rfl, q _ s1⟩
  | .rg p p' n, ⟨b, c, ck, hb, hc⟩, op, ⟨dx, b', c', ho, ho1, ho2⟩ =>
    refine ⟨_, rfl, a, _, rfl, SqT.of ck, rfl, _, _, rfl, _, _, rfl, _, _, rfl, _, _, rfl, _, _, rfl, rfl, ?_⟩
    refine ⟨fun σ' H' => σ' = [some (.ref o), some (.ref a), some (.str "from"), some .non, some (.ref b), some (.ref c), some (.bl n)] ∧ Same H H', ?_, ?_⟩
    · refine ⟨_, rfl, o, CL, dx, _, _, rfl, ho, cl, A0.a1, rfl, _, rfl, o, CL, dx, _, _, rfl, ho, cl, A0.a2, rfl, _, rfl, o, CL, dx, _, _, rfl, ho, cl, A0.a5, rfl, szB (by show 3 ≤ 1000000; decide), fun L1 n1 => ?_⟩
      have s2 := same_new (Same.refl H) n1 (.tup [.str "from", .non, .bl n])
      refine ⟨_, rfl, _, rfl, _, rfl, szB (by show 3 ≤ 1000000; decide), fun L2 n2 => ?_⟩
      have D := ne_three (K := K) (n := n) (w_ok (k := "from") (.inr (.inr (.inr (.inr (.inr rfl)))))) (fun H => .non) ⟨rfl, by decide⟩ rfl n2
      refine ⟨_, _, D.1, D.2.1, D.2.2.1, D.2.2.1, ?_⟩
      rw [D.2.2.2]
      refine ⟨_, rfl, ifn rfl ?_⟩
      have s3 := same_new s2 n2 (.tup [.str "from", .non, .bl n])
      refine ⟨_, rfl, o, CL, dx, _, _, rfl, s3 _ _ ho, cl, A0.a5, rfl, _, _, _, _, true, rfl, .ty "bool", .base (.bl _), kit_ty (by decide +kernel), true, rfl, ?_⟩
      exact ifn rfl ⟨rfl, s3⟩
    rintro σ' H1 ⟨rfl, s1⟩
    refine ⟨_, rfl, rfl, _, rfl, ifn rfl ?_⟩
    refine ⟨_, rfl, o, CL, dx, _, _, rfl, s1 _ _ ho, cl, A0.a3, rfl, _, rfl, b', b, p, false, rfl, ho1.sm s1, s1 _ _ hb, op.1, fun H2 s2 => ⟨_, rfl, ifT ?_⟩⟩
    have s12 := Same.trans s1 s2
    exact ⟨_, rfl, o, CL, dx, _, _, rfl, s12 _ _ ho, cl, A0.a4, rfl, _, rfl, c', c, p', false, rfl, ho2.sm s12, s12 _ _ hc, op.2, fun H3 s3 => q _ (Same.trans s12 s3)⟩

end
end Vf

set_option maxRecDepth 100000
set_option maxHeartbeats 4000000
namespace Vf
open PySem PySem.Spec PyProof.Rows L2 SX
section
variable {P : Program} {w : World} {K : PySem.W.Frag} {mg : Str → Option Value} {base : Heap}
theorem RdAt.sm {CR r : Addr} {e : Nat} {H H' : Hp} {dn rs : List W3} (h : RdAt CR H r dn rs e) (s : Same H H') : RdAt CR H' r dn rs e := by
  obtain ⟨dx, wt, as, h1, h2, h3, h4⟩ := h
  exact ⟨dx, wt, as, s _ _ h1, s _ _ h2, L2.Paired.mapP h3 (fun a w z => s _ _ z), h4⟩
theorem RdAt.step {CR r dx wt : Addr} {e : Nat} {H : Hp} {w : W3} {dn rs : List W3} {as : List Addr} (h1 : H r = some (.ins CR dx (rF wt e dn.length))) (h2 : H wt = some (.tup (as.map V.ref))) (h3 : Paired (fun a w => H a = some (.tup (w3V w))) as (dn ++ w :: rs)) (h4 : True) :
    RdAt CR (upd H r (.ins CR dx (rF wt e (dn.length + 1)))) r (dn ++ [w]) rs e ∧ SmX r H (upd H r (.ins CR dx (rF wt e (dn.length + 1)))) := by
  have sx : SmX r H (upd H r (.ins CR dx (rF wt e (dn.length + 1)))) := fun b o n q => by rw [upd_ne n]; exact q
  have el : dn ++ [w] ++ rs = dn ++ w :: rs := by rw [List.append_assoc]; rfl
  refine ⟨⟨dx, wt, as, by rw [upd_same, List.length_append]; rfl, sx _ _ (fun z => by rw [z, h1] at h2; cases h2) h2, ?_, trivial⟩, sx⟩
  rw [el]
  exact L2.Paired.mapP h3 fun a w z => sx _ _ (fun y => by rw [y, h1] at z; cases z) z
/-- the word at hand -/
theorem RdAt.hd {H : Hp} {w : W3} {dn rs : List W3} {as : List Addr} (h3 : Paired (fun a w => H a = some (.tup (w3V w))) as (dn ++ w :: rs)) : ∃ a, (as.map V.ref)[dn.length]? = some (.ref a) ∧ H a = some (.tup (w3V w)) := by
  have h : ∀ {as : List Addr} {ws : List W3}, Paired (fun a w => H a = some (.tup (w3V w))) as ws → ∀ {i : Nat} {w : W3}, ws[i]? = some w → ∃ a, as[i]? = some a ∧ H a = some (.tup (w3V w)) := fun {as ws} p => by
    induction p with
    | nil => intro i w h; cases h
    | cons hab _ ih =>
      intro i w h
      cases i with
      | zero => cases h; exact ⟨_, rfl, hab⟩
      | succ i => exact ih h
  obtain ⟨a, e1, e2⟩ := h h3 (i := dn.length) (w := w) (by rw [List.getElem?_append_right (Nat.le_refl _), Nat.sub_self]; rfl)
  exact ⟨a, by rw [List.getElem?_map, e1]; rfl, e2⟩
theorem RdAt.ln {H : Hp} {as : List Addr} {ws : List W3} (h3 : Paired (fun a w => H a = some (.tup (w3V w))) as ws) : as.length = ws.length := by
  induction h3 with
  | nil => rfl
  | cons _ _ ih => exact congrArg (· + 1) ih
theorem ok_WordReader_coming {f : Addr} {fd : FuncData} {q : Str} {CR : Addr} (A0 : CaR K CR) (me : Meth K CR "coming" f) (F : C8.Fun K "coming" q s_WordReader_coming f fd) (b : Binds K fd ["self"] []) (T : Tx K w mg) :
    C8.Met P w K mg base 1 CR "coming" (sp_WordReader_coming CR) [] := by
  refine C8.met0 A0.i.cl me F b sc_WordReader_coming (fun vs H Q E h => ?_) (fun cdv A outer s H vs Q E hr h => ?_)
  · obtain ⟨r, dn, rs, e, rfl, _⟩ := h; rfl
  have hu := hu_of hr
  refine ⟨_, (C8.pss_cut (ps_if (PW.pt (pw_and (pt_cmpR op_lt (pe_fld (pv 0) rfl) (pe_callB call_len (by rfl) T.z_len PySem.boot_len (pa_cons (pe_fld (pv 0) rfl) pa_nil)) (nomark _)) (pw_and1 (pt_cmpR op_in_seq (pe_ix ix_tup (pe_ix ix_tup (pe_fld (pv 0) rfl) (pe_fld (pv 0) rfl) (fun _ _ => rfl)) pe_int (fun _ _ => rfl)) (pe_tup (pa_cons pe_str (pa_cons pe_str pa_nil))) rfl))))
      (pss_one (ps_ret (pe_ix ix_tup (pe_ix ix_tup (pe_fld (pv 0) rfl) (pe_fld (pv 0) rfl) (fun _ _ => rfl)) pe_int (fun _ _ => rfl))))
      pss_nil)
      (pss_one (ps_ret pe_str))), ?_⟩
  obtain ⟨r, dn, rs, e, rfl, ⟨dx, wt, as, h1, h2, h3, h4⟩, tg, q⟩ := h
  have cl := A0.i.cl
  have la := RdAt.ln h3
  refine ⟨fun σ' H' => σ' = [some (.ref r)] ∧ Same H H' ∧ cmV rs = .str "", ?_, ?_⟩
  · cases rs with
    | nil =>
      refine ⟨_, rfl, r, CR, dx, _, _, rfl, h1, cl, A0.a4, rfl, _, rfl, r, CR, dx, _, _, rfl, h1, cl, A0.a1, rfl, _, as.length, rfl, .inr ⟨_, SqT.of h2, (List.length_map ..).symm⟩, _, _, rfl, rfl, _, rfl, ?_⟩
      refine ifn (decide_eq_false (by rw [la, List.append_nil]; omega)) (ifF ?_)
      exact ⟨rfl, fun _ _ z => z, rfl⟩
    | cons w rs =>
      obtain ⟨a, e1, e2⟩ := RdAt.hd h3
      refine ⟨_, rfl, r, CR, dx, _, _, rfl, h1, cl, A0.a4, rfl, _, rfl, r, CR, dx, _, _, rfl, h1, cl, A0.a1, rfl, _, as.length, rfl, .inr ⟨_, SqT.of h2, (List.length_map ..).symm⟩, _, _, rfl, rfl, _, rfl, ?_⟩
      refine ify (decide_eq_true (by rw [la, List.length_append, List.length_cons]; omega)) ?_
      refine ⟨_, rfl, r, CR, dx, _, _, rfl, h1, cl, A0.a1, rfl, _, rfl, r, CR, dx, _, _, rfl, h1, cl, A0.a4, rfl, wt, _, _, _, rfl, rfl, SqT.of h2, atI_nat e1, a, _, 0, _, rfl, rfl, SqT.of e2, rfl, sz_2, fun tp htp => ?_⟩
      have sm : Same H (upd H tp (.tup [.str "name", .str "bracket"])) := same_new (Same.refl H) htp _
      refine ⟨tp, _, rfl, .inr (SqT.of upd_same), rfl, rfl, _, rfl, ?_⟩
      have h1' := sm _ _ h1
      have h2' := sm _ _ h2
      have e2' := sm _ _ e2
      rcases tg w (List.mem_cons_self ..) with ⟨t, k1, k2⟩ | ⟨t, k1, k2⟩ | ⟨t, k1, k2⟩
      · refine ify (by rw [k1]; decide) ?_
        refine ⟨_, rfl, r, CR, dx, _, _, rfl, h1', cl, A0.a1, rfl, _, rfl, r, CR, dx, _, _, rfl, h1', cl, A0.a4, rfl, wt, _, _, _, rfl, rfl, SqT.of h2', atI_nat e1, a, _, 1, _, rfl, rfl, SqT.of e2', rfl, ?_⟩
        have := q _ sm
        rw [show cmV (w :: rs) = w.2.1 from if_pos k1] at this
        exact this
      · refine ifn (by rw [k1]; decide) ?_
        exact ⟨rfl, sm, if_neg (by rw [k1]; decide)⟩
      · refine ifn (by rw [k1]; decide) ?_
        exact ⟨rfl, sm, if_neg (by rw [k1]; decide)⟩
  · rintro σ' H' ⟨rfl, sm, e⟩
    have := q _ sm
    rw [e] at this
    exact this

end
end Vf

set_option maxRecDepth 100000
set_option maxHeartbeats 4000000
namespace Vf
open PySem PySem.Spec PyProof.Rows L2 SX
section
variable {P : Program} {w : World} {K : PySem.W.Frag} {mg : Str → Option Value} {base : Heap}
theorem cm_str {rs : List W3} (tg : ∀ w ∈ rs, TokG w) : ∃ s, cmV rs = .str s := by
  cases rs with
  | nil => exact ⟨_, rfl⟩
  | cons w rs =>
    rcases tg w (List.mem_cons_self ..) with ⟨t, k1, k2⟩ | ⟨t, k1, k2⟩ | ⟨t, k1, k2⟩
    · exact ⟨S t, (if_pos k1).trans k2⟩
    · exact ⟨"", if_neg (by rw [k1]; decide)⟩
    · exact ⟨"", if_neg (by rw [k1]; decide)⟩
theorem put_at (wt : Addr) (e i : Nat) : putF "_at" (.int ((i : Int) + 1)) (rF wt e i) = rF wt e (i + 1) := rfl
theorem cm_nm (k : Str) (c : Nat) (rs : List W3) : cmV (tk3 "name" (.str k) c :: rs) = .str k := by
  unfold cmV
  exact if_pos rfl
theorem RdAt.step' {CR r : Addr} {e : Nat} {H H1 : Hp} {w : W3} {dn rs : List W3} (rd : RdAt CR H r dn (w :: rs) e) (s : Same H H1) : ∃ dx wt, H1 r = some (.ins CR dx (rF wt e dn.length)) ∧ RdAt CR (upd H1 r (.ins CR dx (rF wt e (dn.length + 1)))) r (dn ++ [w]) rs e ∧ SmX r H (upd H1 r (.ins CR dx (rF wt e (dn.length + 1)))) := by
  obtain ⟨dx, wt, as, h1, h2, h3, h4⟩ := rd.sm s
  have := RdAt.step h1 h2 h3 h4
  exact ⟨dx, wt, h1, this.1, (SmX.of s).trans this.2⟩
theorem ok_WordReader_skipped {f : Addr} {fd : FuncData} {q : Str} {CR : Addr} (A0 : CaR K CR) (me : Meth K CR "skipped" f) (F : C8.Fun K "skipped" q s_WordReader_skipped f fd) (b : Binds K fd ["self", "word"] []) (T : Tx K w mg) (C_WordReader_coming : C8.Met P w K mg base 1 CR "coming" (sp_WordReader_coming CR) []) :
    C8.Met P w K mg base 2 CR "skipped" (sp_WordReader_skipped CR) [] := by
  refine C8.met0 A0.i.cl me F b sc_WordReader_skipped (fun vs H Q E h => ?_) (fun cdv A outer s H vs Q E hr h => ?_)
  · obtain ⟨r, dn, rs, e, k, rfl, _⟩ := h; rfl
  have hu := hu_of hr
  refine ⟨_, (pss_cons (ps_if (pt_cmpR op_ne (C8.pe_mt0 C_WordReader_coming hr (by decide) (pv 0)) (pv 1) (nomark _))
      (pss_one (ps_ret pe_bl))
      pss_nil)
      (pss_cons (ps_fldaug (pv 0) pe_int in_add)
      (pss_one (ps_ret pe_bl)))), ?_⟩
  obtain ⟨r, dn, rs, e, k, rfl, rd, tg, h⟩ := h
  have cl := A0.i.cl
  obtain ⟨s0, hs0⟩ := cm_str tg
  obtain ⟨dx, wt, as, h1, h2, h3, h4⟩ := id rd
  refine ⟨_, rfl, r, dx, _, rfl, h1, rfl, r, dn, rs, e, rfl, rd, tg, fun H1 s1 => ?_⟩
  rw [hs0]
  refine ⟨_, rfl, rfl, _, rfl, ?_⟩
  rcases h with ⟨c, rs', rfl, q⟩ | ⟨hne, q⟩
  · rw [cm_nm] at hs0
    obtain rfl := V.str.inj hs0
    refine ifn (by rw [decide_eq_true rfl]; rfl) ?_
    obtain ⟨dx', wt', g1, g2, g3⟩ := rd.step' s1
    exact ⟨_, rfl, r, CR, dx', _, _, rfl, g1, cl, A0.a4, rfl, _, _, rfl, rfl, dx', _, g1, (by decide : (4 : Nat) < 1000), q _ g3 g2⟩
  · refine ify (by rw [decide_eq_false fun z => hne (hs0.trans z)]; rfl) ?_
    exact q _ s1

end
end Vf

set_option maxRecDepth 100000
set_option maxHeartbeats 4000000
namespace Vf
open PySem PySem.Spec PyProof.Rows L2 SX
section
variable {P : Program} {w : World} {K : PySem.W.Frag} {mg : Str → Option Value} {base : Heap}
theorem wL_ng (n : Bool) : wL ((ngW n).map (·.2.2)) = if n = true then [.str "not"] else [] := by
  cases n with
  | true =>
    show [V.str (S (k6 "not"))] = _
    rw [S_k]
    rfl
  | false => rfl
theorem wL_app (a b : List (List Nat)) : wL (a ++ b) = wL a ++ wL b := List.map_append ..
theorem twP (p : Pt) (n : Bool) : twT (.pl p n) = (ngW n).map (·.2.2) ++ twT (.pl p false) := by
  show (ngW n ++ pW p).map (·.2.2) = _
  rw [List.map_append]
  rfl
theorem twR (p p' : Pt) (n : Bool) : twT (.rg p p' n) = (ngW n).map (·.2.2) ++ (k6 "from" :: (twT (.pl p false) ++ (k6 "to" :: twT (.pl p' false)))) := by
  show (ngW n ++ (nW "from" :: (pW p ++ (nW "to" :: pW p')))).map (·.2.2) = _
  rw [List.map_append, List.map_cons, List.map_append, List.map_cons]
  rfl
theorem aW_len (v : V) : (aW v).length ≤ 1 := by cases v <;> first | exact Nat.zero_le _ | exact Nat.le_refl _
theorem wP_len (p : Pt) : (wL (twT (.pl p false))).length ≤ 2 := by
  show (((nW p.1 :: aW p.2).map _).map _).length ≤ 2
  rw [List.length_map, List.length_map, List.length_cons]
  have := aW_len p.2
  omega
theorem wg_len (n : Bool) : (wL ((ngW n).map (·.2.2))).length ≤ 1 := by cases n <;> decide
theorem plc_nf {p : Pt} (h : PlC p) : p.1 ≠ "from" := by
  cases h with
  | @wd k t h => exact (show k ≠ "from" by rcases h with h | h | h | h <;> rw [h] <;> decide)
  | @nu k n h => exact (show k ≠ "from" by rcases h with h | h <;> rw [h] <;> decide)
  | @ba k h => exact (show k ≠ "from" by rcases h with h | h <;> rw [h] <;> decide)
theorem ok_testWordsP {f : Addr} {fd : FuncData} (F : C8.Def K mg "_law_test_words" s_testWords f fd) (b : Binds K fd ["_law_check"] []) (T : Tx K w mg) (C_quoted : C8.Cal P w K mg base 1 "_law_quoted" sp_quoted []) : C8.Cal P w K mg base 2 "_law_test_words" sp_testWordsP [] := by
  refine C8.cal0 F b .nil sc_testWords (fun vs H Q E h => ?_) (fun cdv A outer s H vs Q E hr h => ?_)
  · obtain ⟨a, p, n, rfl, _⟩ := h; rfl
  have hu := hu_of hr
  refine ⟨_, (pss_cons (ps_asg (pv 0) (pg_tup (by rfl) (pgs_cons (pg_name (i := 1) sc_testWords.nd rfl (Or.inl rfl)) (pgs_cons (pg_name (i := 2) sc_testWords.nd rfl (Or.inl rfl)) (pgs_cons (pg_name (i := 3) sc_testWords.nd rfl (Or.inl rfl)) (pgs_cons (pg_name (i := 4) sc_testWords.nd rfl (Or.inl rfl)) (pgs_cons (pg_name (i := 5) sc_testWords.nd rfl (Or.inl rfl)) pgs_nil)))))))
      (C8.pss_cut (ps_set (i := 6) sc_testWords.nd rfl (Or.inl rfl) (pe_ifExp (pt_val (pv 5)) (pe_lst (pa_cons pe_str pa_nil)) (pe_lst pa_nil)))
      (pss_cons (ps_if (pt_cmpR op_eq (pv 1) pe_str (nomark _))
      (pss_one ps_never)
      pss_nil)
      (pss_cons (ps_if (pt_cmpR op_isN (pv 2) pe_non (nomark _))
      (pss_one (ps_ret (pe_op op_cat (pv 6) (pe_lst (pa_cons (pv 1) pa_nil)))))
      pss_nil)
      (pss_one (ps_ret (pe_op op_cat (pv 6) (pe_lst (pa_cons (pv 1) (pa_cons (pe_ifExp (pt_cmpR op_in_seq (pv 1) (pe_lst (pa_cons pe_str (pa_cons pe_str pa_nil))) rfl) (pe_callTy call_str_int (by rfl) T.z_str (by decide +kernel) (pa_cons (pv 2) pa_nil)) (C8.pe_c C_quoted hr (by decide) rfl (pa_cons (pv 2) pa_nil))) pa_nil)))))))))), ?_⟩
  obtain ⟨a, p, n, rfl, ck, pc, q⟩ := h
  refine ⟨_, rfl, a, _, rfl, SqT.of ck, rfl, _, _, rfl, _, _, rfl, _, _, rfl, _, _, rfl, _, _, rfl, rfl, ?_⟩
  refine ⟨fun σ' H' => ∃ L0, σ' = [some (.ref a), some (.str p.1), some p.2, some .non, some .non, some (.bl n), some (.ref L0)] ∧ H' L0 = some (.lst (wL ((ngW n).map (·.2.2)))) ∧ Same H H', ?_, ?_⟩
  · refine ⟨_, rfl, n, rfl, ?_⟩
    cases n with
    | true => exact ifT ⟨sz_1, fun L hL => ⟨L, rfl, by rw [wL_ng]; exact upd_same, same_new (Same.refl H) hL _⟩⟩
    | false => exact ifF ⟨Nat.zero_le _, fun L hL => ⟨L, rfl, by rw [wL_ng]; exact upd_same, same_new (Same.refl H) hL _⟩⟩
  rintro σ' H1 ⟨L0, rfl, h0, s1⟩
  refine ⟨_, rfl, rfl, _, rfl, ifn (decide_eq_false fun z => plc_nf pc (V.str.inj z)) ?_⟩
  have g1 := wg_len n
  have g2 := wP_len p
  rw [twP, wL_app] at q
  cases pc with
  | @wd k t h h1 h2 =>
    refine ⟨_, rfl, rfl, _, rfl, ifn (decide_eq_false fun z => nomatch z) ?_⟩
    refine ⟨_, rfl, _, rfl, _, rfl, szB (by decide), fun L1 n1 => ?_⟩
    refine ⟨L1, l2, rfl, .inl (SqL.of upd_same), rfl, by decide, _, rfl, ifn (cl_w h).2.2.1 ?_⟩
    refine ⟨_, rfl, t, rfl, by omega, sz_2, fun L2 n2 => ?_⟩
    have s2 := same_new (same_new s1 n1 (.lst l2)) n2 (.lst [.str k, .str (S (quoteL t))])
    have h0' := same_new (Same.refl (upd H1 L1 (.lst l2))) n2 (.lst [.str k, .str (S (quoteL t))]) _ _ (same_new (Same.refl H1) n1 (.lst l2) _ _ h0)
    refine ⟨L0, L2, _, _, rfl, rfl, h0', upd_same, szB (by show _ + 2 ≤ _; omega), fun L3 n3 => q _ L3 (same_new s2 n3 _) ?_⟩
    rw [upd_same]
    show some (HO.lst (_ ++ [V.str k, V.str (S (quoteL t))])) = some (HO.lst (_ ++ [V.str (S (k6 k)), V.str (S (quoteL t))]))
    rw [S_k]
  | @nu k m h h1 =>
    refine ⟨_, rfl, rfl, _, rfl, ifn (decide_eq_false fun z => nomatch z) ?_⟩
    refine ⟨_, rfl, _, rfl, _, rfl, szB (by decide), fun L1 n1 => ?_⟩
    refine ⟨L1, l2, rfl, .inl (SqL.of upd_same), rfl, by decide, _, rfl, ify (cl_n h).2.2.1 ?_⟩
    have hn : Str.ofString (toString ((m : Nat) : Int)) = S (TL.numL m) := num_S m
    refine ⟨_, rfl, _, rfl, log_small (by omega), ?_⟩
    rw [hn]
    refine ⟨sz_2, fun L2 n2 => ?_⟩
    have s2 := same_new (same_new s1 n1 (.lst l2)) n2 (.lst [.str k, .str (S (TL.numL m))])
    have h0' := same_new (Same.refl (upd H1 L1 (.lst l2))) n2 (.lst [.str k, .str (S (TL.numL m))]) _ _ (same_new (Same.refl H1) n1 (.lst l2) _ _ h0)
    refine ⟨L0, L2, _, _, rfl, rfl, h0', upd_same, szB (by show _ + 2 ≤ _; omega), fun L3 n3 => q _ L3 (same_new s2 n3 _) ?_⟩
    rw [upd_same]
    show some (HO.lst (_ ++ [V.str k, V.str (S (TL.numL m))])) = some (HO.lst (_ ++ [V.str (S (k6 k)), V.str (S (TL.numL m))]))
    rw [S_k]
  | @ba k h =>
    refine ⟨_, rfl, rfl, _, rfl, ify (decide_eq_true rfl) ?_⟩
    refine ⟨_, rfl, _, rfl, sz_1, fun L1 n1 => ?_⟩
    have s2 := same_new s1 n1 (.lst [.str k])
    refine ⟨L0, L1, _, _, rfl, rfl, same_new (Same.refl H1) n1 (.lst [.str k]) _ _ h0, upd_same, szB (by show _ + 1 ≤ _; omega), fun L3 n3 => q _ L3 (same_new s2 n3 _) ?_⟩
    rw [upd_same]
    show some (HO.lst (_ ++ [V.str k])) = some (HO.lst (_ ++ [V.str (S (k6 k))]))
    rw [S_k]
theorem ok_testWords {f : Addr} {fd : FuncData} (F : C8.Def K mg "_law_test_words" s_testWords f fd) (b : Binds K fd ["_law_check"] []) (T : Tx K w mg) (C_testWords : C8.Cal P w K mg base 2 "_law_test_words" sp_testWordsP []) (C_quoted : C8.Cal P w K mg base 1 "_law_quoted" sp_quoted []) : C8.Cal P w K mg base 3 "_law_test_words" sp_testWords [] := by
  refine C8.cal0 F b .nil sc_testWords (fun vs H Q E h => ?_) (fun cdv A outer s H vs Q E hr h => ?_)
  · obtain ⟨a, t, rfl, _⟩ := h; rfl
  have hu := hu_of hr
  refine ⟨_, (pss_cons (ps_asg (pv 0) (pg_tup (by rfl) (pgs_cons (pg_name (i := 1) sc_testWords.nd rfl (Or.inl rfl)) (pgs_cons (pg_name (i := 2) sc_testWords.nd rfl (Or.inl rfl)) (pgs_cons (pg_name (i := 3) sc_testWords.nd rfl (Or.inl rfl)) (pgs_cons (pg_name (i := 4) sc_testWords.nd rfl (Or.inl rfl)) (pgs_cons (pg_name (i := 5) sc_testWords.nd rfl (Or.inl rfl)) pgs_nil)))))))
      (C8.pss_cut (ps_set (i := 6) sc_testWords.nd rfl (Or.inl rfl) (pe_ifExp (pt_val (pv 5)) (pe_lst (pa_cons pe_str pa_nil)) (pe_lst pa_nil)))
      (pss_cons (ps_if (pt_cmpR op_eq (pv 1) pe_str (nomark _))
      (pss_one (ps_ret (pe_op op_cat (pe_op op_cat (pe_op op_cat (pe_op op_cat (pv 6) (pe_lst (pa_cons pe_str pa_nil))) (C8.pe_c C_testWords hr (by decide) rfl (pa_cons (pv 3) pa_nil))) (pe_lst (pa_cons pe_str pa_nil))) (C8.pe_c C_testWords hr (by decide) rfl (pa_cons (pv 4) pa_nil)))))
      pss_nil)
      (pss_cons (ps_if (pt_cmpR op_isN (pv 2) pe_non (nomark _))
      (pss_one (ps_ret (pe_op op_cat (pv 6) (pe_lst (pa_cons (pv 1) pa_nil)))))
      pss_nil)
      (pss_one (ps_ret (pe_op op_cat (pv 6) (pe_lst (pa_cons (pv 1) (pa_cons (pe_ifExp (pt_cmpR op_in_seq (pv 1) (pe_lst (pa_cons pe_str (pa_cons pe_str pa_nil))) rfl) (pe_callTy call_str_int (by rfl) T.z_str (by decide +kernel) (pa_cons (pv 2) pa_nil)) (C8.pe_c C_quoted hr (by decide) rfl (pa_cons (pv 2) pa_nil))) pa_nil)))))))))), ?_⟩
  obtain ⟨a, tt, rfl, ck, tc, q⟩ := h
  match tt, ck, tc with
  | .pl p n, ck, pc =>
    refine ⟨_, rfl, a, _, rfl, SqT.of ck, rfl, _, _, rfl, _, _, rfl, _, _, rfl, _, _, rfl, _, _, rfl, rfl, ?_⟩
    refine ⟨fun σ' H' => ∃ L0, σ' = [some (.ref a), some (.str p.1), some p.2, some .non, some .non, some (.bl n), some (.ref L0)] ∧ H' L0 = some (.lst (wL ((ngW n).map (·.2.2)))) ∧ Same H H', ?_, ?_⟩
    · refine ⟨_, rfl, n, rfl, ?_⟩
      cases n with
      | true => exact ifT ⟨sz_1, fun L hL => ⟨L, rfl, by rw [wL_ng]; exact upd_same, same_new (Same.refl H) hL _⟩⟩
      | false => exact ifF ⟨Nat.zero_le _, fun L hL => ⟨L, rfl, by rw [wL_ng]; exact upd_same, same_new (Same.refl H) hL _⟩⟩
    rintro σ' H1 ⟨L0, rfl, h0, s1⟩
    refine ⟨_, rfl, rfl, _, rfl, ifn (decide_eq_false fun z => plc_nf pc (V.str.inj z)) ?_⟩
    have g1 := wg_len n
    have g2 := wP_len p
    rw [twP, wL_app] at q
    cases pc with
    | @wd k t h h1 h2 =>
      refine ⟨_, rfl, rfl, _, rfl, ifn (decide_eq_false fun z => nomatch z) ?_⟩
      refine ⟨_, rfl, _, rfl, _, rfl, szB (by decide), fun L1 n1 => ?_⟩
      refine ⟨L1, l2, rfl, .inl (SqL.of upd_same), rfl, by decide, _, rfl, ifn (cl_w h).2.2.1 ?_⟩
      refine ⟨_, rfl, t, rfl, by omega, sz_2, fun L2 n2 => ?_⟩
      have s2 := same_new (same_new s1 n1 (.lst l2)) n2 (.lst [.str k, .str (S (quoteL t))])
      have h0' := same_new (Same.refl (upd H1 L1 (.lst l2))) n2 (.lst [.str k, .str (S (quoteL t))]) _ _ (same_new (Same.refl H1) n1 (.lst l2) _ _ h0)
      refine ⟨L0, L2, _, _, rfl, rfl, h0', upd_same, szB (by show _ + 2 ≤ _; omega), fun L3 n3 => q _ L3 (same_new s2 n3 _) ?_⟩
      rw [upd_same]
      show some (HO.lst (_ ++ [V.str k, V.str (S (quoteL t))])) = some (HO.lst (_ ++ [V.str (S (k6 k)), V.str (S (quoteL t))]))
      rw [S_k]
    | @nu k m h h1 =>
      refine ⟨_, rfl, rfl, _, rfl, ifn (decide_eq_false fun z => nomatch z) ?_⟩
      refine ⟨_, rfl, _, rfl, _, rfl, szB (by decide), fun L1 n1 => ?_⟩
      refine ⟨L1, l2, rfl, .inl (SqL.of upd_same), rfl, by decide, _, rfl, ify (cl_n h).2.2.1 ?_⟩
      have hn : Str.ofString (toString ((m : Nat) : Int)) = S (TL.numL m) := num_S m
      refine ⟨_, rfl, _, rfl, log_small (by omega), ?_⟩
      rw [hn]
      refine ⟨sz_2, fun L2 n2 => ?_⟩
      have s2 := same_new (same_new s1 n1 (.lst l2)) n2 (.lst [.str k, .str (S (TL.numL m))])
      have h0' := same_new (Same.refl (upd H1 L1 (.lst l2))) n2 (.lst [.str k, .str (S (TL.numL m))]) _ _ (same_new (Same.refl H1) n1 (.lst l2) _ _ h0)
      refine ⟨L0, L2, _, _, rfl, rfl, h0', upd_same, szB (by show _ + 2 ≤ _; omega), fun L3 n3 => q _ L3 (same_new s2 n3 _) ?_⟩
      rw [upd_same]
      show some (HO.lst (_ ++ [V.str k, V.str (S (TL.numL m))])) = some (HO.lst (_ ++ [V.str (S (k6 k)), V.str (S (TL.numL m))]))
      rw [S_k]
    | @ba k h =>
      refine ⟨_, rfl, rfl, _, rfl, ify (decide_eq_true rfl) ?_⟩
      refine ⟨_, rfl, _, rfl, sz_1, fun L1 n1 => ?_⟩
      have s2 := same_new s1 n1 (.lst [.str k])
      refine ⟨L0, L1, _, _, rfl, rfl, same_new (Same.refl H1) n1 (.lst [.str k]) _ _ h0, upd_same, szB (by show _ + 1 ≤ _; omega), fun L3 n3 => q _ L3 (same_new s2 n3 _) ?_⟩
      rw [upd_same]
      show some (HO.lst (_ ++ [V.str k])) = some (HO.lst (_ ++ [V.str (S (k6 k))]))
      rw [S_k]
  | .rg p p' n, ⟨rb, rc, ck, hb, hc⟩, ⟨pc, pc'⟩ =>
    refine ⟨_, rfl, a, _, rfl, SqT.of ck, rfl, _, _, rfl, _, _, rfl, _, _, rfl, _, _, rfl, _, _, rfl, rfl, ?_⟩
    refine ⟨fun σ' H' => ∃ L0, σ' = [some (.ref a), some (.str "from"), some .non, some (.ref rb), some (.ref rc), some (.bl n), some (.ref L0)] ∧ H' L0 = some (.lst (wL ((ngW n).map (·.2.2)))) ∧ Same H H', ?_, ?_⟩
    · refine ⟨_, rfl, n, rfl, ?_⟩
      cases n with
      | true => exact ifT ⟨sz_1, fun L hL => ⟨L, rfl, by rw [wL_ng]; exact upd_same, same_new (Same.refl H) hL _⟩⟩
      | false => exact ifF ⟨Nat.zero_le _, fun L hL => ⟨L, rfl, by rw [wL_ng]; exact upd_same, same_new (Same.refl H) hL _⟩⟩
    rintro σ' H1 ⟨L0, rfl, h0, s1⟩
    refine ⟨_, rfl, rfl, _, rfl, ify (decide_eq_true rfl) ?_⟩
    have g1 := wg_len n
    have g2 := wP_len p
    have g3 := wP_len p'
    refine ⟨_, rfl, sz_1, fun L1 n1 => ?_⟩
    have s2 := same_new (Same.refl H1) n1 (.lst [.str "from"])
    refine ⟨L0, L1, _, _, rfl, rfl, s2 _ _ h0, upd_same, szB (by show _ + 1 ≤ _; omega), fun p1 np1 => ?_⟩
    have s3 := same_new s2 np1 (.lst (wL ((ngW n).map (·.2.2)) ++ [.str "from"]))
    refine ⟨_, rfl, rb, p, false, rfl, s3 _ _ (s1 _ _ hb), pc, fun H2 L2 t2 hL2 => ?_⟩
    refine ⟨p1, L2, _, _, rfl, rfl, t2 _ _ upd_same, hL2, szB (by rw [List.length_append]; show _ + 1 + _ ≤ _; omega), fun p2 np2 => ?_⟩
    have s4 := same_new (Same.trans s3 t2) np2 (.lst (wL ((ngW n).map (·.2.2)) ++ [.str "from"] ++ wL (twT (.pl p false))))
    refine ⟨sz_1, fun L3 n3 => ?_⟩
    have s5 := same_new (Same.refl (upd H2 p2 (.lst (wL ((ngW n).map (·.2.2)) ++ [.str "from"] ++ wL (twT (.pl p false)))))) n3 (.lst [.str "to"])
    refine ⟨p2, L3, _, _, rfl, rfl, s5 _ _ upd_same, upd_same, szB (by rw [List.length_append, List.length_append]; show _ + 1 + _ + 1 ≤ _; omega), fun p3 np3 => ?_⟩
    have s6 := same_new (Same.trans s4 s5) np3 (.lst (wL ((ngW n).map (·.2.2)) ++ [.str "from"] ++ wL (twT (.pl p false)) ++ [.str "to"]))
    refine ⟨_, rfl, rc, p', false, rfl, s6 _ _ (s1 _ _ hc), pc', fun H3 L4 t3 hL4 => ?_⟩
    refine ⟨p3, L4, _, _, rfl, rfl, t3 _ _ upd_same, hL4, szB (by rw [List.length_append, List.length_append, List.length_append]; show _ + 1 + _ + 1 + _ ≤ _; omega), fun p5 np5 => q _ p5 (same_new (Same.trans s1 (Same.trans s6 t3)) np5 _) ?_⟩
    rw [upd_same, twR, wL_app]
    show _ = some (HO.lst (_ ++ wL (k6 "from" :: (twT (.pl p false) ++ (k6 "to" :: twT (.pl p' false))))))
    rw [show wL (k6 "from" :: (twT (.pl p false) ++ (k6 "to" :: twT (.pl p' false)))) = V.str "from" :: (wL (twT (.pl p false)) ++ (V.str "to" :: wL (twT (.pl p' false)))) by
      show V.str (S (k6 "from")) :: wL (_ ++ _) = _
      rw [wL_app, S_k]
      show _ :: (_ ++ (V.str (S (k6 "to")) :: _)) = _
      rw [S_k]
      rfl]
    simp only [List.append_assoc, List.cons_append, List.nil_append]

end
end Vf

set_option maxRecDepth 100000
set_option maxHeartbeats 4000000
namespace Vf
open PySem PySem.Spec PyProof.Rows L2 SX
section
variable {P : Program} {w : World} {K : PySem.W.Frag} {mg : Str → Option Value} {base : Heap}
/-! ### words as what is read of them -/
def zipTok : List Wd → List Nat → List W3
  | u :: us, c :: cs => (u.1, u.2.1, c) :: zipTok us cs
  | _, _ => []
theorem zip_nil (a : List Wd) : zipTok a [] = [] := by cases a <;> rfl
theorem zip_app : ∀ (a b : List Wd) (cs : List Nat), zipTok (a ++ b) cs = zipTok a (cs.take a.length) ++ zipTok b (cs.drop a.length)
  | [], b, cs => rfl
  | u :: a, b, [] => by
    rw [zip_nil, List.take_nil, List.drop_nil, zip_nil, zip_nil]
    rfl
  | u :: a, b, c :: cs => by
    show (u.1, u.2.1, c) :: zipTok (a ++ b) cs = _
    rw [zip_app a b cs]
    rfl
theorem due_zip : ∀ (ws : List Wd) (is : List (Nat × List Nat)) (n : Nat), (∀ w ∈ ws, isBad w.1 = false) → is.map (·.2) = ws.map (·.2.2) → dueL n ws is = zipTok ws (cols n is)
  | [], is, n, _, hm => by
    cases is with
    | nil => rfl
    | cons x r => cases hm
  | (k, v, t) :: ws, [], n, _, hm => by cases hm
  | (k, v, t) :: ws, (g, u) :: is, n, hb, hm => by
    rw [dueL_good (hb _ (List.mem_cons_self ..)), due_zip ws is _ (fun w hw => hb w (List.mem_cons_of_mem _ hw)) (List.cons.inj hm).2]
    rfl
theorem cols_length : ∀ (is : List (Nat × List Nat)) (n : Nat), (cols n is).length = is.length
  | [], _ => rfl
  | (g, t) :: r, n => congrArg (· + 1) (cols_length r _)
theorem line_lex {ws : List Wd} {is : List (Nat × List Nat)} {e : Nat} (hm : is.map (·.2) = ws.map (·.2.2)) (hg : Gaps [] is) (hw : ∀ w ∈ ws, GoodW w.1 w.2.1 w.2.2) : Lex (asm is ++ blanks e) 0 (zipTok ws (cols 0 is)) := by
  rw [← due_zip ws is 0 (fun w h => good_kind (hw w h)) hm]
  refine lex_all ws is [] 0 hm hg (by have := wsp_good (r := []) hw .nil; rwa [List.append_nil] at this) (fun w h => (good_ne (hw w h)).1) (fun w h hb => ?_) rfl (Nat.zero_add _)
  have := good_kind (hw w (List.mem_of_mem_getLast? h))
  rw [hb.1] at this
  exact absurd this (by decide +kernel)
/-! ### the words of tests are good -/
def nmL : List Str := ["not", "from", "to", "begins", "ends", "has", "is", "short", "number", "all", "last", "zz"]
theorem good_nW {k : Str} (h : k ∈ nmL) : GoodW "name" (.str k) (k6 k) := by
  have a : 1 ≤ (k6 k).length ∧ (k6 k).length ≤ 8 ∧ ∀ c ∈ k6 k, c ∈ lowL := by
    have : ∀ k ∈ nmL, 1 ≤ (k6 k).length ∧ (k6 k).length ≤ 8 ∧ ∀ c ∈ k6 k, c ∈ lowL := by decide +kernel
    exact this k h
  have g := GoodW.name (t := k6 k) a.1 a.2.1 a.2.2
  rwa [S_k] at g
theorem plc_nm {p : Pt} (h : PlC p) : p.1 ∈ nmL := by
  cases h with
  | @wd k t h => rcases h with h | h | h | h <;> (show k ∈ nmL; rw [h]; decide)
  | @nu k n h => rcases h with h | h <;> (show k ∈ nmL; rw [h]; decide)
  | @ba k h => rcases h with h | h <;> (show k ∈ nmL; rw [h]; decide)
theorem pw_good {p : Pt} (h : PlC p) : ∀ w ∈ pW p, GoodW w.1 w.2.1 w.2.2 := by
  have g := good_nW (plc_nm h)
  intro w hw
  rcases List.mem_cons.mp hw with hw | hw
  · rw [hw]; exact g
  · cases h with
    | @wd k t h h1 h2 =>
      rw [List.mem_singleton.mp hw]
      exact .quo h1 h2
    | @nu k n h h1 =>
      rw [List.mem_singleton.mp hw]
      exact .num h1
    | ba h => cases hw
theorem ng_good (n : Bool) : ∀ w ∈ ngW n, GoodW w.1 w.2.1 w.2.2 := by
  intro w hw
  cases n with
  | true => rw [List.mem_singleton.mp hw]; exact good_nW (by decide)
  | false => cases hw
def cW : Tst → List Wd
  | .pl p _ => pW p
  | .rg p q _ => nW "from" :: (pW p ++ (nW "to" :: pW q))
theorem tw_c (t : Tst) : tW t = ngW t.neg ++ cW t := by cases t <;> rfl
theorem cw_good {t : Tst} (h : TsC t) : ∀ w ∈ cW t, GoodW w.1 w.2.1 w.2.2 := by
  match t, h with
  | .pl p n, h => exact pw_good h
  | .rg p q n, ⟨h1, h2⟩ =>
    intro w hw
    rcases List.mem_cons.mp hw with hw | hw
    · rw [hw]; exact good_nW (by decide)
    rcases List.mem_append.mp hw with hw | hw
    · exact pw_good h1 w hw
    rcases List.mem_cons.mp hw with hw | hw
    · rw [hw]; exact good_nW (by decide)
    · exact pw_good h2 w hw
theorem tw_good {t : Tst} (h : TsC t) : ∀ w ∈ tW t, GoodW w.1 w.2.1 w.2.2 := by
  intro w hw
  rw [tw_c] at hw
  exact (List.mem_append.mp hw).elim (ng_good _ w) (cw_good h w)
theorem tok_of {k : Str} {v : V} {t : List Nat} (g : GoodW k v t) (b : k ≠ "bracket") (c : Nat) : TokG (k, v, c) := by
  cases g with
  | name => exact .inl ⟨_, rfl, rfl⟩
  | num => exact .inr (.inr ⟨_, rfl, rfl⟩)
  | quo => exact .inr (.inl ⟨_, rfl, rfl⟩)
  | bra => exact absurd rfl b
theorem tok_good {ws : List Wd} (h : ∀ w ∈ ws, GoodW w.1 w.2.1 w.2.2) (nb : ∀ w ∈ ws, w.1 ≠ "bracket") : ∀ (cs : List Nat), ∀ x ∈ zipTok ws cs, TokG x := by
  induction ws with
  | nil => intro cs x hx; cases hx
  | cons u us ih =>
    intro cs x hx
    cases cs with
    | nil => cases hx
    | cons c cs =>
      rcases List.mem_cons.mp hx with hx | hx
      · subst hx
        have g := h u (List.mem_cons_self ..)
        have b := nb u (List.mem_cons_self ..)
        exact tok_of g b c
      · exact ih (fun w hw => h w (List.mem_cons_of_mem _ hw)) (fun w hw => nb w (List.mem_cons_of_mem _ hw)) cs x hx

theorem pw_nb (p : Pt) : ∀ w ∈ pW p, w.1 ≠ "bracket" := by
  intro w hw
  rcases List.mem_cons.mp hw with hw | hw
  · rw [hw]; show ("name" : Str) ≠ "bracket"; decide
  · cases e : p.2 <;> rw [e] at hw <;> first | cases hw; done | (rw [List.mem_singleton.mp hw]; first | exact (by decide : ("number" : Str) ≠ "bracket") | exact (by decide : ("quoted" : Str) ≠ "bracket"))
theorem cw_nb (t : Tst) : ∀ w ∈ cW t, w.1 ≠ "bracket" := by
  match t with
  | .pl p n => exact pw_nb p
  | .rg p q n =>
    intro w hw
    rcases List.mem_cons.mp hw with hw | hw
    · rw [hw]; show ("name" : Str) ≠ "bracket"; decide
    rcases List.mem_append.mp hw with hw | hw
    · exact pw_nb p w hw
    rcases List.mem_cons.mp hw with hw | hw
    · rw [hw]; show ("name" : Str) ≠ "bracket"; decide
    · exact pw_nb q w hw
theorem tw_nb (t : Tst) : ∀ w ∈ tW t, w.1 ≠ "bracket" := by
  intro w hw
  rw [tw_c] at hw
  rcases List.mem_append.mp hw with hw | hw
  · cases h : t.neg <;> rw [h] at hw
    · cases hw
    · rw [List.mem_singleton.mp hw]; show ("name" : Str) ≠ "bracket"; decide
  · exact cw_nb t w hw
/-! ### how they are read -/
def frm : Tst → Fm
  | .pl p n => (n, [p])
  | .rg p q n => (n, [p, q])
theorem mk_frm (t : Tst) : mkT (frm t) = t := by cases t <;> rfl
def psT : Tst → List Pt
  | .pl p _ => [p]
  | .rg p q _ => [p, q]
theorem frm_eq (t : Tst) : frm t = (t.neg, psT t) := by cases t <;> rfl
/-- behind `not`, or none -/
def CoP (rs : List W3) (o : Option (List Pt)) (r : List W3) : Prop := ∀ (n : Bool) (rs0 : List W3), NgS rs0 n rs → FmP rs0 (o.map fun l => (n, l)) r
structure BadR (r : List W3) : Prop where
  w : ∀ s ∈ nmL, s ≠ "zz" → cmV r ≠ .str s
  s : ∃ s, cmV r = .str s
  q : ∀ x r', r = x :: r' → x.1 ≠ "quoted" ∧ x.1 ≠ "number"
theorem bad_nil : BadR [] := ⟨fun s h _ z => by
    have : ("" : Str) = s := V.str.inj z
    rw [← this] at h
    exact absurd h (by decide), ⟨_, rfl⟩, fun x r' z => by cases z⟩
theorem bad_zz (c : Nat) (r : List W3) : BadR (tk3 "name" (.str "zz") c :: r) := ⟨fun s h n z => by
    rw [cm_nm] at z
    exact n (V.str.inj z).symm, ⟨_, cm_nm _ _ _⟩, fun x r' z => by
    obtain ⟨rfl, _⟩ := List.cons.inj z
    exact ⟨by show ("name" : Str) ≠ "quoted"; decide, by show ("name" : Str) ≠ "number"; decide⟩⟩
theorem no8 {v : V} (h : ∀ s ∈ nmL, s ≠ "zz" → v ≠ .str s) (hs : ∃ s, v = .str s) : inV v [.str "begins", .str "ends", .str "has", .str "is", .str "short", .str "number", .str "all", .str "last"] = false := by
  obtain ⟨s, rfl⟩ := hs
  have n : ∀ k ∈ nmL, k ≠ "zz" → k ≠ s := fun k hk hz e => h k hk hz (by rw [e])
  have a1 := n "begins" (by decide) (by decide)
  have a2 := n "ends" (by decide) (by decide)
  have a3 := n "has" (by decide) (by decide)
  have a4 := n "is" (by decide) (by decide)
  have a5 := n "short" (by decide) (by decide)
  have a6 := n "number" (by decide) (by decide)
  have a7 := n "all" (by decide) (by decide)
  have a8 := n "last" (by decide) (by decide)
  simp [inV, eqV, a1, a2, a3, a4, a5, a6, a7, a8]
theorem plp_ok {p : Pt} (h : PlC p) {cs : List Nat} (hc : cs.length = (pW p).length) (r : List W3) : PlP (zipTok (pW p) cs ++ r) (some p) r := by
  cases h with
  | @wd k t h h1 h2 =>
    match cs, hc with
    | [c, d], _ => exact .wd h
  | @nu k n h h1 =>
    match cs, hc with
    | [c, d], _ => exact .nu h
  | @ba k h =>
    match cs, hc with
    | [c], _ => exact .ba h
theorem plp_bad {p : Pt} (h : PlC p) {j : Nat} (hj : j < (pW p).length) {cs : List Nat} (hc : cs.length = j) {r : List W3} (b : BadR r) : PlP (zipTok ((pW p).take j) cs ++ r) none r := by
  match j, cs, hc with
  | 0, [], _ => exact .no (no8 b.w b.s)
  | 1, [c], _ =>
    cases h with
    | @wd k t h h1 h2 => exact .wdX h fun x r' e => (b.q x r' e).1
    | @nu k n h h1 => exact .nuX h fun x r' e => (b.q x r' e).2
    | @ba k h => exact absurd hj (by show ¬ 1 < 1; decide)
  | j + 2, _, _ =>
    have := aW_len p.2
    have : (pW p).length ≤ 2 := Nat.succ_le_succ this
    omega
theorem pw_pos (p : Pt) : 0 < (pW p).length := Nat.succ_pos _
theorem cm_pw {p : Pt} {cs : List Nat} (hc : 0 < cs.length) (r : List W3) : cmV (zipTok (pW p) cs ++ r) = .str p.1 := by
  cases cs with
  | nil => cases hc
  | cons c cs => exact cm_nm _ _ _
theorem cm_pwt {p : Pt} {j : Nat} {cs : List Nat} (hj : 0 < j) (hc : cs.length = j) (r : List W3) : cmV (zipTok ((pW p).take j) cs ++ r) = .str p.1 := by
  match j, cs, hc with
  | j + 1, c :: cs, _ => exact cm_nm _ _ _

theorem ngs_co {t : Bool} {r : List W3} (c : Nat) (h : t = false → cmV r ≠ .str "not") : NgS (if t = true then tk3 "name" (.str "not") c :: r else r) t r := by
  cases t with
  | true => exact .inl ⟨rfl, c, rfl⟩
  | false => exact .inr ⟨rfl, rfl, h rfl⟩
theorem co_none {r : List W3} (h : cmV r ≠ .str "from") (h2 : PlP r none r) : CoP r none r := fun n rs0 hn => .pl (o := none) hn h h2
theorem co_ok {t : Tst} (h : TsC t) {cs : List Nat} (hc : cs.length = (cW t).length) : CoP (zipTok (cW t) cs) (some (psT t)) [] := by
  match t, h with
  | .pl p n, h =>
    intro m rs0 hn
    have hp := plp_ok h hc []
    have e : zipTok (pW p) cs ++ [] = zipTok (pW p) cs := List.append_nil _
    have hf : cmV (zipTok (pW p) cs) ≠ .str "from" := by
      rw [← e, cm_pw (by rw [hc]; exact pw_pos p)]
      exact fun z => plc_nf h (V.str.inj z)
    rw [e] at hp
    exact .pl (o := some p) hn hf hp
  | .rg p q n, ⟨h1, h2⟩ =>
    match cs, hc with
    | c :: cs, hc =>
      have hc : cs.length = (pW p ++ (nW "to" :: pW q)).length := Nat.succ.inj hc
      rw [List.length_append] at hc
      have l1 : (cs.take (pW p).length).length = (pW p).length := by rw [List.length_take]; omega
      have l2 : (cs.drop (pW p).length).length = (nW "to" :: pW q).length := by rw [List.length_drop]; omega
      intro m rs0 hn
      have e : zipTok (cW (.rg p q n)) (c :: cs) = tk3 "name" (.str "from") c :: (zipTok (pW p) (cs.take (pW p).length) ++ zipTok (nW "to" :: pW q) (cs.drop (pW p).length)) := by
        show tk3 "name" (.str "from") c :: zipTok (pW p ++ (nW "to" :: pW q)) cs = _
        rw [zip_app]
      rw [e] at hn
      generalize cs.drop (pW p).length = ds at hn l2
      match ds, l2 with
      | d :: ds, l2 =>
        have l2 : ds.length = (pW q).length := Nat.succ.inj l2
        have a := plp_ok h1 l1 (zipTok (nW "to" :: pW q) (d :: ds))
        have b := plp_ok h2 l2 []
        rw [List.append_nil] at b
        exact .r3 (o := some q) hn a b
theorem take_zero' (l : List Wd) : l.take 0 = [] := rfl
theorem co_bad {t : Tst} (h : TsC t) {k : Nat} (hk : k < (cW t).length) {cs : List Nat} (hc : cs.length = k) {r : List W3} (b : BadR r) : CoP (zipTok ((cW t).take k) cs ++ r) none r ∧ cmV (zipTok ((cW t).take k) cs ++ r) ≠ .str "not" := by
  have z0 : ∀ {l : List Wd} {cs : List Nat}, cs.length = 0 → zipTok (l.take 0) cs ++ r = r := fun {l cs} e => by
    cases cs with
    | nil => rfl
    | cons => cases e
  have n0 : cmV r ≠ .str "not" := b.w "not" (by decide) (by decide)
  have f0 : cmV r ≠ .str "from" := b.w "from" (by decide) (by decide)
  have p0 : PlP r none r := .no (no8 b.w b.s)
  match t, h with
  | .pl p n, h =>
    have hp := plp_bad h hk hc b
    rcases Nat.eq_zero_or_pos k with e | e
    · subst e
      show CoP (zipTok ((pW p).take 0) cs ++ r) none r ∧ _
      rw [z0 hc]
      exact ⟨co_none f0 p0, by show cmV (zipTok ((pW p).take 0) cs ++ r) ≠ _; rw [z0 hc]; exact n0⟩
    · have e1 := cm_pwt (p := p) e hc r
      refine ⟨fun m rs0 hn => .pl (o := none) hn ?_ hp, ?_⟩
      · show cmV (zipTok ((pW p).take k) cs ++ r) ≠ _
        rw [e1]
        exact fun z => plc_nf h (V.str.inj z)
      · show cmV (zipTok ((pW p).take k) cs ++ r) ≠ _
        rw [e1]
        intro z
        have := plc_nm h
        cases h with
        | @wd k t h => exact (show k ≠ "not" by rcases h with h | h | h | h <;> rw [h] <;> decide) (V.str.inj z)
        | @nu k n h => exact (show k ≠ "not" by rcases h with h | h <;> rw [h] <;> decide) (V.str.inj z)
        | @ba k h => exact (show k ≠ "not" by rcases h with h | h <;> rw [h] <;> decide) (V.str.inj z)
  | .rg p q n, ⟨h1, h2⟩ =>
    match k, cs, hc, hk with
    | 0, cs, hc, _ =>
      rw [z0 hc]
      exact ⟨co_none f0 p0, n0⟩
    | k + 1, c :: cs, hc, hk =>
      have hc : cs.length = k := Nat.succ.inj hc
      have hk : k < (pW p ++ (nW "to" :: pW q)).length := Nat.lt_of_succ_lt_succ hk
      have e : zipTok ((cW (.rg p q n)).take (k + 1)) (c :: cs) ++ r = tk3 "name" (.str "from") c :: (zipTok ((pW p ++ (nW "to" :: pW q)).take k) cs ++ r) := rfl
      rw [e]
      refine ⟨fun m rs0 hn => ?_, by rw [cm_nm]; exact fun z => absurd (V.str.inj z) (by decide)⟩
      rw [List.length_append] at hk
      rcases Nat.lt_or_ge k (pW p).length with hlt | hge
      · rw [List.take_append_of_le_length (Nat.le_of_lt hlt)] at hn
        exact .r1 hn (plp_bad h1 hlt hc b)
      · rw [List.take_append, List.take_of_length_le hge, zip_app] at hn
        have l1 : (cs.take (pW p).length).length = (pW p).length := by rw [List.length_take]; omega
        have l2 : (cs.drop (pW p).length).length = k - (pW p).length := by rw [List.length_drop, hc]
        generalize cs.drop (pW p).length = ds at hn l2
        generalize hj : k - (pW p).length = j at hn l2
        match j, ds, l2 with
        | 0, [], _ =>
          have hn' : NgS rs0 m (tk3 "name" (.str "from") c :: (zipTok (pW p) (cs.take (pW p).length) ++ r)) := by
            have e2 : zipTok (pW p) (cs.take (pW p).length) ++ zipTok ((nW "to" :: pW q).take 0) [] ++ r = zipTok (pW p) (cs.take (pW p).length) ++ r := by
              show zipTok (pW p) (cs.take (pW p).length) ++ [] ++ r = _
              rw [List.append_nil]
            rw [e2] at hn
            exact hn
          exact .r2 hn' (plp_ok h1 l1 r) (b.w "to" (by decide) (by decide))
        | j + 1, d :: ds, l2 =>
          have l2 : ds.length = j := Nat.succ.inj l2
          have hn' : NgS rs0 m (tk3 "name" (.str "from") c :: (zipTok (pW p) (cs.take (pW p).length) ++ (tk3 "name" (.str "to") d :: (zipTok ((pW q).take j) ds ++ r)))) := by
            rw [List.append_assoc] at hn
            exact hn
          have hj2 : j < (pW q).length := by
            have : (nW "to" :: pW q).length = (pW q).length + 1 := rfl
            omega
          exact .r3 (o := none) hn' (plp_ok h1 l1 _) (plp_bad h2 hj2 l2 b)
/-- the words of a test -/
theorem fm_ok {t : Tst} (h : TsC t) {cs : List Nat} (hc : cs.length = (tW t).length) : FmP (zipTok (tW t) cs) (some (frm t)) [] := by
  rw [frm_eq]
  have hcw : ∀ {cs : List Nat}, cs.length = (cW t).length → cmV (zipTok (cW t) cs) ≠ .str "not" := fun {cs} hc => by
    match t, h with
    | .pl p n, h =>
      rw [show zipTok (cW (.pl p n)) cs = zipTok (pW p) cs ++ [] from (List.append_nil _).symm, cm_pw (by rw [hc]; exact pw_pos p)]
      intro z
      cases h with
      | @wd k t h => exact (show k ≠ "not" by rcases h with h | h | h | h <;> rw [h] <;> decide) (V.str.inj z)
      | @nu k n h => exact (show k ≠ "not" by rcases h with h | h <;> rw [h] <;> decide) (V.str.inj z)
      | @ba k h => exact (show k ≠ "not" by rcases h with h | h <;> rw [h] <;> decide) (V.str.inj z)
    | .rg p q n, h =>
      match cs, hc with
      | c :: cs, _ => rw [show zipTok (cW (.rg p q n)) (c :: cs) = tk3 "name" (.str "from") c :: _ from rfl, cm_nm]; exact fun z => absurd (V.str.inj z) (by decide)
  rw [tw_c] at hc ⊢
  cases e : t.neg with
  | true =>
    rw [e] at hc
    match cs, hc with
    | c :: cs, hc =>
      exact co_ok h (Nat.succ.inj hc) true _ (.inl ⟨rfl, c, rfl⟩)
  | false =>
    rw [e] at hc
    exact co_ok h hc false _ (.inr ⟨rfl, rfl, hcw hc⟩)
theorem fm_bad {t : Tst} (h : TsC t) {k : Nat} (hk : k < (tW t).length) {cs : List Nat} (hc : cs.length = k) {r : List W3} (b : BadR r) : FmP (zipTok ((tW t).take k) cs ++ r) none r := by
  rw [tw_c] at hk ⊢
  cases e : t.neg with
  | true =>
    rw [e] at hk
    match k, cs, hc, hk with
    | 0, [], _, _ =>
      exact .pl (o := none) (.inr ⟨rfl, rfl, b.w "not" (by decide) (by decide)⟩) (b.w "from" (by decide) (by decide)) (.no (no8 b.w b.s))
    | k + 1, c :: cs, hc, hk =>
      exact (co_bad h (Nat.lt_of_succ_lt_succ hk) (Nat.succ.inj hc) b).1 true _ (.inl ⟨rfl, c, rfl⟩)
  | false =>
    rw [e] at hk
    have := co_bad h hk hc b
    exact this.1 false _ (.inr ⟨rfl, rfl, this.2⟩)

end
end Vf

set_option maxRecDepth 100000
set_option maxHeartbeats 4000000
namespace Vf
open PySem PySem.Spec PyProof.Rows L2 SX
section
variable {P : Program} {w : World} {K : PySem.W.Frag} {mg : Str → Option Value} {base : Heap}
def bentW (t : Tst) (k : Nat) (z : Bool) : List Wd := (tW t).take k ++ (if z = true then nW "zz" :: (tW t).drop k else [])
theorem wL_bt (t : Tst) (k : Nat) : wL ((bentW t k true).map (·.2.2)) = (wL (twT t)).take k ++ [.str "zz"] ++ (wL (twT t)).drop k := by
  unfold bentW wL twT
  rw [if_pos rfl, List.map_append, List.map_append, List.map_cons, List.map_cons, List.map_take, List.map_take, List.map_drop, List.map_drop, List.append_assoc]
  show _ ++ (V.str (S (k6 "zz")) :: _) = _
  rw [S_k]
  rfl
theorem wL_bf (t : Tst) (k : Nat) : wL ((bentW t k false).map (·.2.2)) = (wL (twT t)).take k := by
  unfold bentW wL twT
  rw [if_neg (by decide), List.append_nil, List.map_take, List.map_take]
theorem tw_pos (t : Tst) : 1 ≤ (tW t).length := by
  rw [tw_c, List.length_append]
  cases t with
  | pl p n => exact Nat.le_trans (pw_pos p) (Nat.le_add_left ..)
  | rg p q n => exact Nat.le_trans (Nat.succ_le_succ (Nat.zero_le _)) (Nat.le_add_left ..)
theorem tw_len (t : Tst) : (tW t).length ≤ 7 := by
  have a : ∀ p, (pW p).length ≤ 2 := fun p => Nat.succ_le_succ (aW_len p.2)
  have b : ∀ n, (ngW n).length ≤ 1 := fun n => by cases n <;> decide
  rw [tw_c, List.length_append]
  have := b t.neg
  cases t with
  | pl p n => have := a p; show _ + (pW p).length ≤ 7; omega
  | rg p q n =>
    have := a p
    have := a q
    show _ + ((pW p ++ (nW "to" :: pW q)).length + 1) ≤ 7
    rw [List.length_append, List.length_cons]
    omega
theorem bent_mem {t : Tst} {k : Nat} {z : Bool} {w : Wd} (h : w ∈ bentW t k z) : w ∈ tW t ∨ w = nW "zz" := by
  rcases List.mem_append.mp h with h | h
  · exact .inl (List.mem_of_mem_take h)
  · cases z with
    | true =>
      rcases List.mem_cons.mp h with h | h
      · exact .inr h
      · exact .inl (List.mem_of_mem_drop h)
    | false => cases h
theorem bent_good {t : Tst} (tc : TsC t) {k : Nat} {z : Bool} : ∀ w ∈ bentW t k z, GoodW w.1 w.2.1 w.2.2 := fun w h => (bent_mem h).elim (tw_good tc w) fun e => by rw [e]; exact good_nW (by decide)
theorem bent_nb {t : Tst} {k : Nat} {z : Bool} : ∀ w ∈ bentW t k z, w.1 ≠ "bracket" := fun w h => (bent_mem h).elim (tw_nb t w) fun e => by rw [e]; show ("name" : Str) ≠ "bracket"; decide
theorem bent_len {t : Tst} {k : Nat} {z : Bool} (hk : k < (tW t).length) : (bentW t k z).length = if z = true then (tW t).length + 1 else k := by
  unfold bentW
  rw [List.length_append, List.length_take]
  cases z with
  | true =>
    rw [if_pos rfl, if_pos rfl, List.length_cons, List.length_drop]
    omega
  | false =>
    rw [if_neg (by decide), if_neg (by decide)]
    show min _ _ + 0 = _
    omega
theorem sh_pair (a b : Int) : SeqAt.shaped (.tuple [.int a, .int b]) = true := by
  simp [SeqAt.shaped, PyData.canLay0, PyData.canLayAll0, PyData.depth, PyData.depthAll]
theorem eqv_pair (a b : Int) : PyData.eqv (.tuple [.int a, .int b]) (.tuple [.int a, .int b]) = true := by simp [PyData.eqv, PyData.eqvAll]
/-- how bent words are read -/
theorem bent_fm {t : Tst} (tc : TsC t) {k : Nat} (hk : k < (tW t).length) {z : Bool} {cs : List Nat} (hc : cs.length = (bentW t k z).length) (e : Nat) :
    ∃ rs, FmP (zipTok (bentW t k z) cs) none rs ∧ ((z = true ∧ ∃ c, cs[k]? = some c ∧ colE e rs = c) ∨ (z = false ∧ colE e rs = e)) := by
  have lt : ((tW t).take k).length = k := by rw [List.length_take]; omega
  unfold bentW at hc ⊢
  rw [zip_app, lt]
  rw [List.length_append, lt] at hc
  have l1 : (cs.take k).length = k := by rw [List.length_take]; omega
  cases z with
  | true =>
    rw [if_pos rfl] at hc ⊢
    have hc : cs.length = k + ((tW t).drop k).length + 1 := by rw [hc, List.length_cons]; omega
    have l2 : (cs.drop k).length = ((tW t).drop k).length + 1 := by rw [List.length_drop, hc]; omega
    match h : cs.drop k, l2 with
    | c :: ds, _ =>
      refine ⟨_, fm_bad tc hk l1 (bad_zz c (zipTok ((tW t).drop k) ds)), .inl ⟨rfl, c, ?_, rfl⟩⟩
      rw [← Nat.add_zero k, ← List.getElem?_drop, h]
      rfl
  | false =>
    rw [if_neg (by decide)]
    exact ⟨[], fm_bad tc hk l1 bad_nil, .inr ⟨rfl, rfl⟩⟩
theorem ok_isWrongRight {f : Addr} {fd : FuncData} (F : C8.Def K mg "_law_is_wrong_right" s_isWrongRight f fd) (b : Binds K fd ["_law_pen_here", "_law_words"] []) (T : Tx K w mg) {CBadText CBadWord CBadNumber CW : Addr} (ES : Es P w K mg base CBadText CBadWord CBadNumber CW) {CL : Addr} (tt : PySem.W.exmOne K (.ref CBadText) (.ref CBadText) = some true) (C_draw : C8.Cal P w K mg base 1 "_law_draw" sp_draw []) (C_lineOfWords : C8.Cal P w K mg base 2 "_law_line_of_words" sp_lineOfWords []) (C_readLinetest : CalX P w K mg base 8 "read_linetest" (sp_readLinetest CL CBadText CBadWord CBadNumber)) : C8.Cal P w K mg base 9 "_law_is_wrong_right" sp_isWrongRight [] := by
  refine C8.cal0 F b .nil sc_isWrongRight (fun vs H Q E h => ?_) (fun cdv A outer s H vs Q E hr h => ?_)
  · obtain ⟨p, c, lw, m, t, rfl, _⟩ := h; rfl
  have hu := hu_of hr
  refine ⟨_, (pss_cons (ps_par (i := 2) (j := 3) (by rfl) sc_isWrongRight.nd rfl rfl (by decide) rfl rfl (pa_cons (C8.pe_c C_draw hr (by decide) rfl (pa_cons (pv 0) (pa_cons (pe_callB call_len (by rfl) T.z_len PySem.boot_len (pa_cons (pv 1) pa_nil)) pa_nil))) (pa_cons pe_non pa_nil)) (by rfl))
      (C8.pss_cut (ps_set (i := 4) sc_isWrongRight.nd rfl (Or.inl rfl) (pe_ifExp (pt_cmpR op_eq (C8.pe_c C_draw hr (by decide) rfl (pa_cons (pv 0) (pa_cons pe_int pa_nil))) pe_int (nomark _)) (pe_op op_cat (pe_op op_cat (pe_slice sl_list (pv 1) po_none (po_some (pv 2))) (pe_lst (pa_cons pe_str pa_nil))) (pe_slice sl_list (pv 1) (po_some (pv 2)) po_none)) (pe_slice sl_list (pv 1) po_none (po_some (pv 2)))))
      (pss_cons (ps_asg (C8.pe_c C_lineOfWords hr (by decide) rfl (pa_cons (pv 0) (pa_cons (pv 4) pa_nil))) (pg_tup (by rfl) (pgs_cons (pg_name (i := 5) sc_isWrongRight.nd rfl (Or.inl rfl)) (pgs_cons (pg_name (i := 6) sc_isWrongRight.nd rfl (Or.inl rfl)) pgs_nil))))
      (pss_cons (ps_try_as (i := 7) rfl rfl sc_isWrongRight.nd rfl rfl ⟨rfl, by decide, .inl ES.r_BadText.rc.g⟩ takes0 (fun W pn xe tk _ => (pss_one (ps_expr (pe_cx C_readLinetest hr (by decide) rfl tk (pa_cons (pv 5) pa_nil)))))
      (fun a oe cls d pn hz hf => (pss_one (ps_set (i := 3) sc_isWrongRight.nd rfl (Or.inl rfl) (pe_tup (pa_cons (pe_xf (ES.r_BadText.rc.x) (ES.r_BadText.no "line" (by simp)) hz hf (pv 7)) (pa_cons (pe_xf (ES.r_BadText.rc.x) (ES.r_BadText.no "column" (by simp)) hz hf (pv 7)) pa_nil)))))))
      (pss_one (ps_ret (pe_cmpR (op_eqD hr.units) (pv 3) (pe_tup (pa_cons pe_int (pa_cons (pe_ifExp (pt_cmpR op_gt (pe_callB call_len (by rfl) T.z_len PySem.boot_len (pa_cons (pv 4) pa_nil)) (pv 2) (nomark _)) (pe_ix ix_list (pv 6) (pv 2) (fun _ _ => rfl)) (pe_op op_add (pe_callB call_len (by rfl) T.z_len PySem.boot_len (pa_cons (pv 5) pa_nil)) pe_int)) pa_nil))) (nomark _)))))))), ?_⟩
  obtain ⟨p, c, lw, m, t, rfl, hp, hm, hlw, tc, q⟩ := h
  have hL : (wL (twT t)).length = (tW t).length := by
    show (((tW t).map _).map _).length = _
    rw [List.length_map, List.length_map]
  refine ⟨_, rfl, _, rfl, _, (tW t).length, rfl, .inl ⟨_, SqL.of hlw, hL.symm⟩, p, c, m, (tW t).length, rfl, hp, by omega, tw_pos t, Nat.lt_of_le_of_lt (tw_len t) (by decide), fun H1 k k1 p1 hk => ?_⟩
  refine ⟨_, _, rfl, ?_⟩
  refine ⟨fun σ' H' => ∃ (z : Bool) (lb : Addr), σ' = [some (.ref p), some (.ref lw), some (.int ((k : Nat) : Int)), some .non, some (.ref lb), none, none, none] ∧ H' lb = some (.lst (wL ((bentW t k z).map (·.2.2)))) ∧ PenAt H' p c (m + 2) ∧ Ks H H', ?_, ?_⟩
  · refine ⟨_, rfl, p, c, m + 1, 2, rfl, p1, by omega, by decide, by decide, fun H2 r k2 p2 hr2 => ?_⟩
    have hlw2 := (k1.trans k2).lst hlw
    have tl := tw_len t
    refine ⟨rfl, _, rfl, ite2 (fun _ => ?_) (fun _ => ?_)⟩
    · refine ⟨_, rfl, _, rfl, _, rfl, lw, _, rfl, SqL.of hlw2, fun b1 n1 => ?_⟩
      rw [cut_to] at *
      have ks1 := (k1.trans k2).new n1 (.lst ((wL (twT t)).take k))
      refine ⟨sz_1, fun b2 n2 => ?_⟩
      have ks2 := ks1.new n2 (.lst [.str "zz"])
      have n12 : b1 ≠ b2 := ne_of_none upd_same n2
      refine ⟨b1, b2, _, _, rfl, rfl, by rw [upd_ne n12]; exact upd_same, upd_same, szB (by rw [List.length_take]; show min _ _ + 1 ≤ _; omega), fun b3 n3 => ?_⟩
      have ks3 := ks2.new n3 (.lst ((wL (twT t)).take k ++ [.str "zz"]))
      refine ⟨_, rfl, _, rfl, _, rfl, lw, _, rfl, SqL.of (ks3.lst hlw), fun b4 n4 => ?_⟩
      rw [cut_from] at *
      have ks4 := ks3.new n4 (.lst ((wL (twT t)).drop k))
      have n34 : b3 ≠ b4 := ne_of_none upd_same n4
      refine ⟨b3, b4, _, _, rfl, rfl, by rw [upd_ne n34]; exact upd_same, upd_same, szB (by rw [List.length_append, List.length_take, List.length_drop]; show min _ _ + 1 + _ ≤ _; omega), fun b5 n5 => ?_⟩
      exact ⟨true, b5, rfl, by rw [upd_same, wL_bt], ((((p2.new n1).new n2).new n3).new n4).new n5, ks4.new n5 _⟩
    · refine ⟨_, rfl, _, rfl, _, rfl, lw, _, rfl, SqL.of hlw2, fun b1 n1 => ?_⟩
      rw [cut_to] at *
      exact ⟨false, b1, rfl, by rw [upd_same, wL_bf], p2.new n1, (k1.trans k2).new n1 _⟩
  rintro σ' H2 ⟨z, lb, rfl, hlb, p2, k2⟩
  have bl := bent_len (z := z) hk
  have tl := tw_len t
  have bl8 : (bentW t k z).length ≤ 8 := by
    rw [bl]
    split <;> omega
  refine ⟨_, rfl, _, rfl, p, c, lb, m + 2, (bentW t k z).map (fun w : Wd => w.2.2), rfl, p2, by omega, hlb, by rw [List.length_map]; omega, fun x hx => ?_, fun H3 a cl is e k3 p3 ha hcl hm2 hg h1000 he => ?_⟩
  · obtain ⟨w, hw, rfl⟩ := List.mem_map.mp hx
    have := good_ne (bent_good tc w hw)
    exact ⟨this.1, this.2.2⟩
  have lexx := line_lex (e := e) hm2 hg (bent_good tc)
  have hlen : (asm is ++ blanks e).length ≤ 100000 := by rw [List.length_append, blanks_len]; omega
  have cl0 : (cols 0 is).length = (bentW t k z).length := by
    rw [cols_length, ← List.length_map (f := fun x : Nat × List Nat => x.2), hm2, List.length_map]
  obtain ⟨rs, fm, out⟩ := bent_fm tc hk cl0 ((asm is ++ blanks e).length + 1)
  refine ⟨a, _, rfl, SqT.of ha, rfl, _, _, rfl, _, _, rfl, rfl, ?_⟩
  refine ⟨_, rfl, _, _, none, rs, rfl, hlen, lexx, tok_good (bent_good tc) bent_nb _, fm, fun _ d H4 s4 hd => ?_, fun f hf => by cases hf⟩
  refine ⟨true, tt, fun _ ea hea => ?_, fun z => nomatch z⟩
  refine ⟨_, rfl, rfl, rfl, d, _, _, rfl, hd, rfl, _, rfl, rfl, rfl, d, _, _, rfl, hd, rfl, sz_2, fun tp htp => ?_⟩
  have s5 := Same.trans s4 (same_new (Same.refl H4) htp (.tup [.int 1, .int ((colE ((asm is ++ blanks e).length + 1) rs : Nat) : Int)]))
  have hb5 := s5 _ _ (k3.lst hlb)
  have hcl5 := s5 _ _ hcl
  have htp5 : (upd H4 tp (.tup [.int 1, .int ((colE ((asm is ++ blanks e).length + 1) rs : Nat) : Int)])) tp = some (.tup [.int 1, .int ((colE ((asm is ++ blanks e).length + 1) rs : Nat) : Int)]) := upd_same
  have kk := (k2.trans k3).trans (Ks.of s5)
  have pp := p3.same s5
  refine ⟨_, rfl, ?_⟩
  refine ⟨_, rfl, _, (bentW t k z).length, rfl, .inl ⟨_, SqL.of hb5, by show _ = ((List.map _ _).map _).length; rw [List.length_map, List.length_map]⟩, _, rfl, _, _, rfl, rfl, _, rfl, ?_⟩
  have fin : ∀ (n : Int), n = ((colE ((asm is ++ blanks e).length + 1) rs : Nat) : Int) → ∀ u, (upd H4 tp (.tup [.int 1, .int ((colE ((asm is ++ blanks e).length + 1) rs : Nat) : Int)])) u = none → rEqD K (.ref tp) (.ref u) (upd (upd H4 tp (.tup [.int 1, .int ((colE ((asm is ++ blanks e).length + 1) rs : Nat) : Int)])) u (.tup [.int 1, .int n])) Q := fun n hn u hu => by
    subst hn
    refine ⟨.tuple [.int 1, .int _], .tuple [.int 1, .int _], .tup (SqT.of (by rw [upd_ne (ne_of_none htp5 hu)]; exact htp5)) (.cons (.int _) (.cons (.int _) .nil)), .tup (SqT.of upd_same) (.cons (.int _) (.cons (.int _) .nil)), sh_pair _ _, sh_pair _ _, ?_⟩
    rw [eqv_pair]
    exact q _ (kk.new hu _) ((pp.new hu).mono (by omega))
  rcases out with ⟨rfl, cc, hcc, hce⟩ | ⟨rfl, hce⟩
  · refine ify (decide_eq_true (by rw [bl, if_pos rfl]; omega)) ?_
    refine ⟨_, rfl, _, rfl, cl, _, _, _, rfl, rfl, SqL.of hcl5, atI_nat (j := k) (by rw [List.getElem?_map, hcc]; rfl), sz_2, fun u hu => fin _ (by rw [hce]) u hu⟩
  · refine ifn (decide_eq_false (by rw [bl, if_neg (by decide)]; omega)) ?_
    refine ⟨_, rfl, _, _, rfl, ⟨by rw [S_len]; exact szB (by omega), by rw [S_len]⟩, _, _, rfl, rfl, sz_2, fun u hu => fin _ (by rw [hce]; rfl) u hu⟩

end
end Vf

set_option maxRecDepth 100000
set_option maxHeartbeats 4000000
namespace Vf
open PySem PySem.Spec PyProof.Rows L2 SX
section
variable {P : Program} {w : World} {K : PySem.W.Frag} {mg : Str → Option Value} {base : Heap}
theorem eq_flat {K : PySem.W.Frag} {H : Hp} {p q : Pt} (h : OkP p) (h' : OkP q) : ∃ d e, Dp K H p.2 d ∧ Dp K H q.2 e ∧ SeqAt.shaped d = true ∧ SeqAt.shaped e = true ∧ d = vD p.2 ∧ e = vD q.2 := ⟨_, _, (sc_dp h).1, (sc_dp h').1, (sc_dp (K := K) (H := H) h).2, (sc_dp (K := K) (H := H) h').2, rfl, rfl⟩
theorem dnon : SeqAt.shaped PyData.none = true := by simp [SeqAt.shaped, PyData.canLay0, PyData.depth]
theorem dV (a b : Str) : decide (V.str a = V.str b) = decide (a = b) := decide_eq_decide.mpr ⟨fun z => V.str.inj z, fun z => by rw [z]⟩
theorem dB (a b : Bool) : decide (V.bl a = V.bl b) = decide (a = b) := decide_eq_decide.mpr ⟨fun z => V.bl.inj z, fun z => by rw [z]⟩
theorem ok_eqP {f : Addr} {fd : FuncData} {q : Str} {CL : Addr} (A0 : Ca K CL) (gc : mg "LineTest" = some (.ref CL)) (T : Tx K w mg) (F : C8.Fun K "__eq__" q s_LineTest_eq f fd) : FnOk P w K mg base C8.CX0 1 f fd ["self", "other"] (sp_LineTest_eqP CL) := by
  refine C8.fn0 F sc_LineTest_eq (fun vs H Q E h => ?_) (fun cdv A outer s H vs Q E hr h => ?_)
  · obtain ⟨a, b, r, rfl, _⟩ := h; rfl
  refine ⟨_, (pss_one (ps_ret (pe_and (pe_callB (C8.call_isC A0.i) (by rfl) T.z_isinstance (by decide +kernel) (pa_cons (pv 1) (pa_cons (pe_cls (gc) rfl) pa_nil))) (pe_and (pe_cmpR op_eq (pe_fld (pv 0) rfl) (pe_fld (pv 1) rfl) (nomark _)) (pe_and (pe_cmpR (op_eqD hr.units) (pe_fld (pv 0) rfl) (pe_fld (pv 1) rfl) (nomark _)) (pe_and (pe_cmpR (op_eqD hr.units) (pe_fld (pv 0) rfl) (pe_fld (pv 1) rfl) (nomark _)) (pe_and (pe_cmpR (op_eqD hr.units) (pe_fld (pv 0) rfl) (pe_fld (pv 1) rfl) (nomark _)) (pe_one (pe_cmpR op_eq (pe_fld (pv 0) rfl) (pe_fld (pv 1) rfl) (nomark _)))))))))), ?_⟩
  obtain ⟨a, b, r, rfl, ⟨p, q, n, m, ⟨dx, ha⟩, ⟨dy, hb⟩, op, oq, rfl⟩, k⟩ := h
  have k' := k H (fun _ _ z => z)
  rw [eqT_pl] at k'
  have cl := A0.i.cl
  obtain ⟨d, e, D1, D2, S1, S2, e1, e2⟩ := eq_flat (K := K) (H := H) op oq
  refine ⟨_, rfl, b, dy, _, rfl, hb, true, rfl, ifT ?_⟩
  refine ⟨_, rfl, a, CL, dx, _, _, rfl, ha, cl, A0.a1, rfl, _, rfl, b, CL, dy, _, _, rfl, hb, cl, A0.a1, rfl, rfl, _, rfl, ?_⟩
  rw [dV]
  by_cases c1 : p.1 = q.1
  · rw [decide_eq_true c1]
    rw [decide_eq_true c1, Bool.true_and] at k'
    refine ifT ?_
    refine ⟨_, rfl, a, CL, dx, _, _, rfl, ha, cl, A0.a2, rfl, _, rfl, b, CL, dy, _, _, rfl, hb, cl, A0.a2, rfl, d, e, D1, D2, S1, S2, _, rfl, ?_⟩
    rw [e1, e2]
    cases c2 : PyData.eqv (vD p.2) (vD q.2) with
    | false =>
      rw [c2, Bool.false_and] at k'
      exact ifF k'
    | true =>
      rw [c2, Bool.true_and] at k'
      refine ifT ?_
      refine ⟨_, rfl, a, CL, dx, _, _, rfl, ha, cl, A0.a3, rfl, _, rfl, b, CL, dy, _, _, rfl, hb, cl, A0.a3, rfl, _, _, .non, .non, dnon, dnon, _, rfl, ifT ?_⟩
      refine ⟨_, rfl, a, CL, dx, _, _, rfl, ha, cl, A0.a4, rfl, _, rfl, b, CL, dy, _, _, rfl, hb, cl, A0.a4, rfl, _, _, .non, .non, dnon, dnon, _, rfl, ifT ?_⟩
      refine ⟨_, rfl, a, CL, dx, _, _, rfl, ha, cl, A0.a5, rfl, _, rfl, b, CL, dy, _, _, rfl, hb, cl, A0.a5, rfl, rfl, ?_⟩
      rw [dB]
      exact k'
  · rw [decide_eq_false c1]
    rw [decide_eq_false c1, Bool.false_and] at k'
    exact ifF k'
theorem ok_eq {f : Addr} {fd : FuncData} {q : Str} {CL : Addr} (A0 : Ca K CL) (gc : mg "LineTest" = some (.ref CL)) (T : Tx K w mg) (F : C8.Fun K "__eq__" q s_LineTest_eq f fd) (EQ : Eqc P w K mg base 1 CL (EqP CL)) : FnOk P w K mg base C8.CX0 2 f fd ["self", "other"] (sp_LineTest_eq CL) := by
  refine C8.fn0 F sc_LineTest_eq (fun vs H Q E h => ?_) (fun cdv A outer s H vs Q E hr h => ?_)
  · obtain ⟨a, b, r, rfl, _⟩ := h; rfl
  refine ⟨_, (pss_one (ps_ret (pe_and (pe_callB (C8.call_isC A0.i) (by rfl) T.z_isinstance (by decide +kernel) (pa_cons (pv 1) (pa_cons (pe_cls (gc) rfl) pa_nil))) (pe_and (pe_cmpR op_eq (pe_fld (pv 0) rfl) (pe_fld (pv 1) rfl) (nomark _)) (pe_and (pe_cmpR (op_eqD hr.units) (pe_fld (pv 0) rfl) (pe_fld (pv 1) rfl) (nomark _)) (pe_and (pe_cmpR (op_eqI2 EQ hr (by decide) (op_eqD hr.units)) (pe_fld (pv 0) rfl) (pe_fld (pv 1) rfl) (nomark _)) (pe_and (pe_cmpR (op_eqI2 EQ hr (by decide) (op_eqD hr.units)) (pe_fld (pv 0) rfl) (pe_fld (pv 1) rfl) (nomark _)) (pe_one (pe_cmpR op_eq (pe_fld (pv 0) rfl) (pe_fld (pv 1) rfl) (nomark _)))))))))), ?_⟩
  obtain ⟨a, b, r, rfl, ⟨t, u, ta, tb, ot, ou, rfl⟩, k⟩ := h
  have cl := A0.i.cl
  match t, u, ta, tb, ot, ou, k with
  | .pl p n, .pl q m, ⟨dx, ha⟩, ⟨dy, hb⟩, op, oq, k =>
    have k' := k H (fun _ _ z => z)
    rw [eqT_pl] at k'
    obtain ⟨d, e, D1, D2, S1, S2, e1, e2⟩ := eq_flat (K := K) (H := H) op oq
    refine ⟨_, rfl, b, dy, _, rfl, hb, true, rfl, ifT ?_⟩
    refine ⟨_, rfl, a, CL, dx, _, _, rfl, ha, cl, A0.a1, rfl, _, rfl, b, CL, dy, _, _, rfl, hb, cl, A0.a1, rfl, rfl, _, rfl, ?_⟩
    rw [dV]
    by_cases c1 : p.1 = q.1
    · rw [decide_eq_true c1]
      rw [decide_eq_true c1, Bool.true_and] at k'
      refine ifT ?_
      refine ⟨_, rfl, a, CL, dx, _, _, rfl, ha, cl, A0.a2, rfl, _, rfl, b, CL, dy, _, _, rfl, hb, cl, A0.a2, rfl, d, e, D1, D2, S1, S2, _, rfl, ?_⟩
      rw [e1, e2]
      cases c2 : PyData.eqv (vD p.2) (vD q.2) with
      | false =>
        rw [c2, Bool.false_and] at k'
        exact ifF k'
      | true =>
        rw [c2, Bool.true_and] at k'
        refine ifT ?_
        refine ⟨_, rfl, a, CL, dx, _, _, rfl, ha, cl, A0.a3, rfl, _, rfl, b, CL, dy, _, _, rfl, hb, cl, A0.a3, rfl, .inl ⟨_, _, .non, .non, dnon, dnon, _, rfl, ifT ?_⟩⟩
        refine ⟨_, rfl, a, CL, dx, _, _, rfl, ha, cl, A0.a4, rfl, _, rfl, b, CL, dy, _, _, rfl, hb, cl, A0.a4, rfl, .inl ⟨_, _, .non, .non, dnon, dnon, _, rfl, ifT ?_⟩⟩
        refine ⟨_, rfl, a, CL, dx, _, _, rfl, ha, cl, A0.a5, rfl, _, rfl, b, CL, dy, _, _, rfl, hb, cl, A0.a5, rfl, rfl, ?_⟩
        rw [dB]
        exact k'
    · rw [decide_eq_false c1]
      rw [decide_eq_false c1, Bool.false_and] at k'
      exact ifF k'
  | .pl p n, .rg q q' m, ⟨dx, ha⟩, ⟨dy, b1, b2, hb, _, _⟩, op, oq, k =>
    have k' := k H (fun _ _ z => z)
    rw [eqT_plrg op] at k'
    refine ⟨_, rfl, b, dy, _, rfl, hb, true, rfl, ifT ?_⟩
    refine ⟨_, rfl, a, CL, dx, _, _, rfl, ha, cl, A0.a1, rfl, _, rfl, b, CL, dy, _, _, rfl, hb, cl, A0.a1, rfl, rfl, _, rfl, ?_⟩
    rw [dV, decide_eq_false op.nf]
    exact ifF k'
  | .rg p p' n, .pl q m, ⟨dx, a1, a2, ha, _, _⟩, ⟨dy, hb⟩, op, oq, k =>
    have k' := k H (fun _ _ z => z)
    rw [eqT_rgpl oq] at k'
    refine ⟨_, rfl, b, dy, _, rfl, hb, true, rfl, ifT ?_⟩
    refine ⟨_, rfl, a, CL, dx, _, _, rfl, ha, cl, A0.a1, rfl, _, rfl, b, CL, dy, _, _, rfl, hb, cl, A0.a1, rfl, rfl, _, rfl, ?_⟩
    rw [dV, decide_eq_false fun z => oq.nf z.symm]
    exact ifF k'
  | .rg p p' n, .rg q q' m, ⟨dx, a1, a2, ha, ha1, ha2⟩, ⟨dy, b1, b2, hb, hb1, hb2⟩, op, oq, k =>
    rw [eqT_rg] at k
    refine ⟨_, rfl, b, dy, _, rfl, hb, true, rfl, ifT ?_⟩
    refine ⟨_, rfl, a, CL, dx, _, _, rfl, ha, cl, A0.a1, rfl, _, rfl, b, CL, dy, _, _, rfl, hb, cl, A0.a1, rfl, rfl, _, rfl, ifT ?_⟩
    refine ⟨_, rfl, a, CL, dx, _, _, rfl, ha, cl, A0.a2, rfl, _, rfl, b, CL, dy, _, _, rfl, hb, cl, A0.a2, rfl, _, _, .non, .non, dnon, dnon, _, rfl, ifT ?_⟩
    obtain ⟨d1, h1⟩ := id ha1
    obtain ⟨e1, g1⟩ := id hb1
    refine ⟨_, rfl, a, CL, dx, _, _, rfl, ha, cl, A0.a3, rfl, _, rfl, b, CL, dy, _, _, rfl, hb, cl, A0.a3, rfl, .inr ⟨a1, b1, _, d1, e1, _, _, rfl, rfl, h1, g1, ⟨p, q, false, false, ha1, hb1, op.1, oq.1, rfl⟩, fun H1 s1 => ?_⟩⟩
    refine ⟨_, rfl, ?_⟩
    rw [Bool.bne_false]
    cases c1 : eqT (.pl p false) (.pl q false) with
    | false =>
      rw [c1, Bool.false_and] at k
      exact ifF (k H1 s1)
    | true =>
      rw [c1, Bool.true_and] at k
      refine ifT ?_
      obtain ⟨d2, h2⟩ := id (ha2.sm s1)
      obtain ⟨e2, g2⟩ := id (hb2.sm s1)
      refine ⟨_, rfl, a, CL, dx, _, _, rfl, s1 _ _ ha, cl, A0.a4, rfl, _, rfl, b, CL, dy, _, _, rfl, s1 _ _ hb, cl, A0.a4, rfl, .inr ⟨a2, b2, _, d2, e2, _, _, rfl, rfl, h2, g2, ⟨p', q', false, false, ha2.sm s1, hb2.sm s1, op.2, oq.2, rfl⟩, fun H2 s2 => ?_⟩⟩
      refine ⟨_, rfl, ?_⟩
      have s3 := Same.trans s1 s2
      rw [Bool.bne_false]
      cases c2 : eqT (.pl p' false) (.pl q' false) with
      | false =>
        rw [c2, Bool.false_and] at k
        exact ifF (k H2 s3)
      | true =>
        rw [c2, Bool.true_and] at k
        refine ifT ?_
        refine ⟨_, rfl, a, CL, dx, _, _, rfl, s3 _ _ ha, cl, A0.a5, rfl, _, rfl, b, CL, dy, _, _, rfl, s3 _ _ hb, cl, A0.a5, rfl, rfl, ?_⟩
        rw [dB]
        exact k H2 s3

end
end Vf

set_option maxRecDepth 100000
set_option maxHeartbeats 4000000
namespace Vf
open PySem PySem.Spec PyProof.Rows L2 SX
section
variable {P : Program} {w : World} {K : PySem.W.Frag} {mg : Str → Option Value} {base : Heap}
theorem cut4 (a b c d e : V) : cutV [a, b, c, d, e] none (some 4) = [a, b, c, d] := rfl
theorem ok_anyTest {f : Addr} {fd : FuncData} (F : C8.Def K mg "_law_any_test" s_anyTest f fd) (b : Binds K fd ["_law_pen_here"] []) (T : Tx K w mg) (C_anyPlain : C8.Cal P w K mg base 5 "_law_any_plain" sp_anyPlain []) (C_draw : C8.Cal P w K mg base 1 "_law_draw" sp_draw []) : C8.Cal P w K mg base 6 "_law_any_test" sp_anyTest [] := by
  refine C8.cal0 F b .nil sc_anyTest (fun vs H Q E h => ?_) (fun cdv A outer s H vs Q E hr h => ?_)
  · obtain ⟨p, c, m, rfl, _⟩ := h; rfl
  have hu := hu_of hr
  refine ⟨_, (pss_cons (ps_set (i := 1) sc_anyTest.nd rfl (Or.inl rfl) (C8.pe_c C_anyPlain hr (by decide) rfl (pa_cons (pv 0) pa_nil)))
      (C8.pss_cut (ps_if (pt_cmpR op_eq (C8.pe_c C_draw hr (by decide) rfl (pa_cons (pv 0) (pa_cons pe_int pa_nil))) pe_int (nomark _))
      (pss_one (ps_set (i := 1) sc_anyTest.nd rfl (Or.inl rfl) (pe_tup (pa_cons pe_str (pa_cons pe_non (pa_cons (pv 1) (pa_cons (C8.pe_c C_anyPlain hr (by decide) rfl (pa_cons (pv 0) pa_nil)) (pa_cons pe_bl pa_nil))))))))
      pss_nil)
      (pss_one (ps_ret (pe_op op_catT (pe_slice sl_tup (pv 1) po_none (po_some pe_int)) (pe_tup (pa_cons (pe_cmpR op_eq (C8.pe_c C_draw hr (by decide) rfl (pa_cons (pv 0) (pa_cons pe_int pa_nil))) pe_int (nomark _)) pa_nil))))))), ?_⟩

  obtain ⟨p, c, m, rfl, hp, hm, q⟩ := h
  refine ⟨_, rfl, p, c, m, rfl, hp, by omega, fun H1 a z k1 p1 oz ha => ?_⟩
  refine ⟨fun σ' H' => ∃ (a : Addr) (t : Tst), σ' = [some (.ref p), some (.ref a)] ∧ PenAt H' p c (m + 50) ∧ Ks H H' ∧ OkT t ∧ CkAt H' a t, ?_, ?_⟩
  · refine ⟨_, rfl, p, c, m + 20, 3, rfl, p1, by omega, by decide, by decide, fun H2 r k2 p2 hr2 => ?_⟩
    refine ⟨rfl, _, rfl, ?_⟩
    refine ite2 (fun _ => ?_) (fun _ => ?_)
    · refine ⟨_, rfl, _, rfl, p, c, m + 21, rfl, p2, by omega, fun H3 b y k3 p3 oy hb => ?_⟩
      refine ⟨szB (by show 5 ≤ 1000000; decide), fun d hd => ?_⟩
      have ha3 := (k2.trans k3).tup ha
      exact ⟨d, .rg z y false, rfl, (p3.new hd).mono (by omega), ((k1.trans (k2.trans k3)).new hd _), ⟨oz, oy⟩, a, b, upd_same, by rw [upd_ne (ne_of_none ha3 hd)]; exact ha3, by rw [upd_ne (ne_of_none hb hd)]; exact hb⟩
    · exact ⟨a, .pl z false, rfl, p2.mono (by omega), k1.trans k2, oz, k2.tup ha⟩
  rintro σ' H2 ⟨a2, t, rfl, p2, k2, ot, ck⟩
  obtain ⟨z2, x, y, h2, back⟩ := ck_l ck
  refine ⟨_, rfl, _, rfl, a2, _, rfl, SqT.of h2, (by show ¬ (HT.sIx 5 0 none = 0 ∧ HT.sIx 5 5 (some 4) = 5); decide), fun u hu => ?_⟩
  have ks3 := k2.new hu (.tup (cutV (cT z2 x y t.neg) none (some 4)))
  have tk3 : Tk H2 (upd H2 u (.tup (cutV (cT z2 x y t.neg) none (some 4)))) := (Ks.new1 hu _).tk
  have hu3 : (upd H2 u (.tup (cutV (cT z2 x y t.neg) none (some 4)))) u = some (.tup [.str z2.1, z2.2, x, y]) := upd_same
  have p3 : PenAt (upd H2 u (.tup (cutV (cT z2 x y t.neg) none (some 4)))) p c (m + 50) := p2.new hu
  generalize (upd H2 u (.tup (cutV (cT z2 x y t.neg) none (some 4)))) = H3 at ks3 tk3 hu3 p3 ⊢
  refine ⟨_, rfl, p, c, m + 50, 3, rfl, p3, by omega, by decide, by decide, fun H4 r k4 p4 hr4 => ?_⟩
  refine ⟨rfl, szB (by show 1 ≤ 1000000; decide), fun e he => ?_⟩
  have hu4 := k4.tup hu3
  refine ⟨u, e, [.str z2.1, z2.2, x, y], _, rfl, rfl, SqT.of (by rw [upd_ne (ne_of_none hu4 he)]; exact hu4), SqT.of upd_same, (fun z => nomatch z), szB (by show 4 + 1 ≤ 1000000; decide), (fun z => nomatch z), fun _ g hg => ?_⟩
  exact q _ g (t.sg _) (((ks3.trans k4).new he _).new hg _) (((p4.new he).new hg).mono (by omega)) (ot.sg _) (back _ _ g (tk3.trans (k4.tk.trans ((Ks.new1 he _).new hg _).tk)) upd_same)

end
end Vf

set_option maxRecDepth 100000
set_option maxHeartbeats 4000000
namespace Vf
open PySem PySem.Spec PyProof.Rows L2 SX
section
variable {P : Program} {w : World} {K : PySem.W.Frag} {mg : Str → Option Value} {base : Heap}
/-! ### words with one blank between -/
def js : List (List Nat) → List (Nat × List Nat)
  | [] => []
  | t :: r => (0, t) :: r.map fun u => (1, u)
theorem asm_tail : ∀ (u : List Nat) (r : List (List Nat)), asm ((u :: r).map fun u => (1, u)) = 32 :: TL.joinL [32] (u :: r)
  | u, [] => by
    show [32] ++ (u ++ []) = _
    rw [List.append_nil]
    rfl
  | u, v :: r => by
    show [32] ++ (u ++ asm ((v :: r).map fun u => (1, u))) = _
    rw [asm_tail v r]
    rfl
theorem asm_js : ∀ ts : List (List Nat), asm (js ts) = TL.joinL [32] ts
  | [] => rfl
  | [t] => by
    show [] ++ (t ++ []) = t
    rw [List.append_nil]
    rfl
  | t :: u :: r => by
    show [] ++ (t ++ asm ((u :: r).map fun u => (1, u))) = _
    rw [asm_tail u r]
    rfl
theorem js_map : ∀ ts : List (List Nat), (js ts).map (·.2) = ts
  | [] => rfl
  | t :: r => by
    show t :: (r.map fun u => (1, u)).map (·.2) = _
    rw [List.map_map]
    show t :: r.map id = _
    rw [List.map_id]
theorem gaps_tail : ∀ (r : List (List Nat)) (pv : List Nat), Gaps pv (r.map fun u => (1, u))
  | [], _ => trivial
  | u :: r, pv => ⟨fun _ => Nat.le_refl _, gaps_tail r u⟩
theorem gaps_js (ts : List (List Nat)) : Gaps [] (js ts) := by
  cases ts with
  | nil => trivial
  | cons t r => exact ⟨fun ⟨c, d, h, _⟩ => (by cases h), gaps_tail r t⟩
theorem join_len : ∀ ts : List (List Nat), (∀ t ∈ ts, t.length ≤ 30) → (TL.joinL [32] ts).length ≤ 31 * ts.length
  | [], _ => Nat.zero_le _
  | [t], h => by
    have := h t (List.mem_cons_self ..)
    show t.length ≤ 31 * 1
    omega
  | t :: u :: r, h => by
    have := h t (List.mem_cons_self ..)
    have := join_len (u :: r) fun x hx => h x (List.mem_cons_of_mem _ hx)
    show (t ++ ([32] ++ TL.joinL [32] (u :: r))).length ≤ 31 * (List.length (u :: r) + 1)
    rw [List.length_append, List.length_append]
    show _ + (1 + _) ≤ _
    omega
theorem join_lex {ws : List Wd} (hw : ∀ w ∈ ws, GoodW w.1 w.2.1 w.2.2) : Lex (TL.joinL [32] (ws.map (·.2.2))) 0 (zipTok ws (cols 0 (js (ws.map (·.2.2))))) := by
  have := line_lex (e := 0) (js_map (ws.map (·.2.2))) (gaps_js _) hw
  rw [asm_js, show blanks 0 = [] from rfl, List.append_nil] at this
  exact this
/-! ### what the law's tests are -/
theorem okp_plc {p : Pt} (h : OkP p) : PlC p := by
  cases h with
  | @wd k t h h1 h2 => exact .wd h (by omega) fun c hc => (h2 c hc).1
  | @sh n h => exact .nu (.inl rfl) (by omega)
  | @nu n h1 h2 => exact .nu (.inr rfl) (by omega)
  | ba h => exact .ba h
theorem okt_tsc {t : Tst} (h : OkT t) : TsC t := by
  match t, h with
  | .pl p n, h => exact okp_plc h
  | .rg p q n, ⟨h1, h2⟩ => exact ⟨okp_plc h1, okp_plc h2⟩
theorem plr_plc {p : Pt} {o : Option Er} (h : PlR p o) : PlC p := by
  cases h with
  | ok h => exact okp_plc h
  | wd h h1 h2 h3 => exact .wd h h1 h2
  | nu h h1 h2 => exact .nu (h.imp (·.1) (·.1)) h1
theorem okt_md {t : Tst} (h : OkT t) : MdR (psT t) none := by
  match t, h with
  | .pl p n, h => exact .one (.ok h)
  | .rg p q n, ⟨h1, h2⟩ => exact .snd (.ok h1) (.ok h2)
theorem eqT_all {t : Tst} (h : OkT t) : eqT t t = true := by
  match t, h with
  | .pl p n, h => exact eqT_self h n
  | .rg p q n, ⟨h1, h2⟩ =>
    rw [eqT_rg, eqT_self h1, eqT_self h2, decide_eq_true rfl]
    rfl
theorem eqT_opp (t : Tst) : eqT t (t.sg (!t.neg)) = false := by
  match t with
  | .pl p n =>
    show eqT (.pl p n) (.pl p (!n)) = false
    rw [eqT_pl, decide_eq_false (show ¬ n = !n by cases n <;> decide), Bool.and_false, Bool.and_false]
  | .rg p q n =>
    show eqT (.rg p q n) (.rg p q (!n)) = false
    rw [eqT_rg, decide_eq_false (show ¬ n = !n by cases n <;> decide), Bool.and_false, Bool.and_false]
inductive ErG : Er → Prop
  | w : ErG (.word "argument")
  | n {k : Str} {i : Int} (h : k = "short" ∨ k = "number") : ErG (.num k (.int i))
theorem plr_er {p : Pt} {e : Er} (h : PlR p (some e)) : ErG e := by
  cases h with
  | wd h h1 h2 h3 => exact .w
  | nu h h1 h2 => exact .n (h.imp (·.1) (·.1))
theorem due_eq {K : PySem.W.Frag} {H : Hp} {d d' : Addr} {e : Er} (g : ErG e) (h : DueAt H d e) (h' : DueAt H d' e) : ∃ D, Dp K H (.ref d) D ∧ Dp K H (.ref d') D ∧ SeqAt.shaped D = true ∧ PyData.eqv D D = true := by
  cases g with
  | w =>
    have s1 : PyData.strOk "word" = true := by decide +kernel
    have s2 : PyData.strOk "argument" = true := by decide +kernel
    exact ⟨.tuple [.str "word", .str "argument"], .tup (SqT.of h) (.cons (.str _) (.cons (.str _) .nil)), .tup (SqT.of h') (.cons (.str _) (.cons (.str _) .nil)), by simp [SeqAt.shaped, PyData.canLay0, PyData.canLayAll0, PyData.depth, PyData.depthAll, s1, s2], by simp [PyData.eqv, PyData.eqvAll]⟩
  | @n k i hk =>
    have s1 : PyData.strOk "number" = true := by decide +kernel
    have s2 : PyData.strOk k = true := by rcases hk with rfl | rfl <;> decide +kernel
    exact ⟨.tuple [.str "number", .str k, .int i], .tup (SqT.of h) (.cons (.str _) (.cons (.str _) (.cons (.int _) .nil))), .tup (SqT.of h') (.cons (.str _) (.cons (.str _) (.cons (.int _) .nil))), by simp [SeqAt.shaped, PyData.canLay0, PyData.canLayAll0, PyData.depth, PyData.depthAll, s1, s2], by simp [PyData.eqv, PyData.eqvAll]⟩
theorem DueAt.same {H H' : Hp} {d : Addr} {e : Er} (h : DueAt H d e) (s : Same H H') : DueAt H' d e := by
  cases e <;> exact s _ _ h
theorem DueAt.ks {H H' : Hp} {d : Addr} {e : Er} (h : DueAt H d e) (s : Ks H H') : DueAt H' d e := by
  cases e <;> exact s.tup h
theorem tw_ok {t : Tst} (tc : TsC t) : ∀ x ∈ twT t, x ≠ [] ∧ x.length ≤ 30 := fun x hx => by
  obtain ⟨w, hw, rfl⟩ := List.mem_map.mp hx
  have := good_ne (tw_good tc w hw)
  exact ⟨this.1, this.2.2⟩
theorem twT_len (t : Tst) : (twT t).length ≤ 7 := by
  show (List.map _ _).length ≤ 7
  rw [List.length_map]
  exact tw_len t
theorem tw_sum {t : Tst} (tc : TsC t) : (((twT t).map S).map (·.length)).sum + ((twT t).map S).length * (" " : Str).length ≤ 16777216 := by
  have a : ∀ (l : List (List Nat)), (∀ x ∈ l, x.length ≤ 30) → ((l.map S).map (·.length)).sum ≤ 30 * l.length := fun l => by
    induction l with
    | nil => intro _; exact Nat.le_refl _
    | cons x r ih =>
      intro h
      have h1 := h x (List.mem_cons_self ..)
      have h2 := ih fun y hy => h y (List.mem_cons_of_mem _ hy)
      show (S x).length + ((r.map S).map (·.length)).sum ≤ 30 * (r.length + 1)
      rw [S_len]
      omega
  have := a (twT t) fun x hx => (tw_ok tc x hx).2
  have := twT_len t
  rw [List.length_map, show (" " : Str).length = 1 by decide]
  omega

end
end Vf

set_option maxRecDepth 100000
set_option maxHeartbeats 4000000
namespace Vf
open PySem PySem.Spec PyProof.Rows L2 SX
section
variable {P : Program} {w : World} {K : PySem.W.Frag} {mg : Str → Option Value} {base : Heap}
theorem ts_i {C o : Addr} {H : Hp} : ∀ {t : Tst}, TsAt C H o t → ∃ dx fs, H o = some (.ins C dx fs)
  | .pl p n, ⟨dx, h⟩ => ⟨dx, _, h⟩
  | .rg p q n, ⟨dx, b, c, h, _, _⟩ => ⟨dx, _, h⟩
theorem pl_ks {C o : Addr} {H H' : Hp} {p : Pt} {n : Bool} (h : PlAt C H o p n) (s : Ks H H') : PlAt C H' o p n := let ⟨dx, e⟩ := h; ⟨dx, s.1 _ _ e fun _ z => nomatch z⟩
theorem ts_ks {C o : Addr} {H H' : Hp} : ∀ {t : Tst}, TsAt C H o t → Ks H H' → TsAt C H' o t
  | .pl p n, h, s => pl_ks h s
  | .rg p q n, ⟨dx, b, c, h, h1, h2⟩, s => ⟨dx, b, c, s.1 _ _ h fun _ z => (nomatch z), pl_ks h1 s, pl_ks h2 s⟩
theorem lines_le {is : List (Nat × List Nat)} {e : Nat} (h : (asm is).length ≤ 1000) (he : e ≤ 10) : (asm is ++ blanks e).length ≤ 100000 := by rw [List.length_append, blanks_len]; omega
theorem map_S (ts : List (List Nat)) : wL ts = (ts.map S).map V.str := by
  rw [List.map_map]
  rfl
theorem ok_law {f : Addr} {fd : FuncData} (F : C8.Def K mg "law" s_law f fd) (T : Tx K w mg) {CL CBadText CBadWord CBadNumber : Addr} (EQ : Eqc P w K mg base 2 CL (EqR CL)) (C_pen : C8.Cal P w K mg base 1 "_law_pen" (sp_pen K) []) (C_anyTest : C8.Cal P w K mg base 6 "_law_any_test" sp_anyTest []) (C_testWords : C8.Cal P w K mg base 3 "_law_test_words" sp_testWords []) (C_lawRead : C8.Cal P w K mg base 9 "_law_read" (sp_lawRead CL) []) (C_lineOfWords : C8.Cal P w K mg base 2 "_law_line_of_words" sp_lineOfWords []) (C_isTest : C8.Cal P w K mg base 2 "_law_is_test" (sp_isTest CL) []) (C_linetestText : C8.Cal P w K mg base 3 "linetest_text" (sp_linetestText CL) []) (C_testMade : C8.Cal P w K mg base 6 "_law_test_made" (sp_testMade CL) []) (C_isWrongRight : C8.Cal P w K mg base 9 "_law_is_wrong_right" sp_isWrongRight []) (C_readLinetest : CalX P w K mg base 8 "read_linetest" (sp_readLinetest CL CBadText CBadWord CBadNumber)) (C_beyond : C8.Cal P w K mg base 5 "_law_beyond" sp_beyond []) (C_draw : C8.Cal P w K mg base 1 "_law_draw" sp_draw []) (C_anyPlain : C8.Cal P w K mg base 5 "_law_any_plain" sp_anyPlain []) : FnOk P w K mg base C8.CX0 10 f fd ["_law_script"] (sp_law K) := by
  refine C8.fn0 F.fn sc_law (fun vs H Q E h => ?_) (fun cdv A outer s H vs Q E hr h => ?_)
  · obtain ⟨a, ns, rfl, _⟩ := h; rfl
  have hu := hu_of hr
  refine ⟨_, (pss_cons (ps_set (i := 1) sc_law.nd rfl (Or.inl rfl) (C8.pe_c C_pen hr (by decide) rfl (pa_cons (pv 0) pa_nil)))
      (pss_cons (ps_set (i := 2) sc_law.nd rfl (Or.inl rfl) (C8.pe_c C_anyTest hr (by decide) rfl (pa_cons (pv 1) pa_nil)))
      (pss_cons (ps_set (i := 3) sc_law.nd rfl (Or.inl rfl) (C8.pe_c C_testWords hr (by decide) rfl (pa_cons (pv 2) pa_nil)))
      (pss_cons (ps_set (i := 4) sc_law.nd rfl (Or.inl rfl) (C8.pe_c C_lawRead hr (by decide) rfl (pa_cons (pe_ix ix_tup (C8.pe_c C_lineOfWords hr (by decide) rfl (pa_cons (pv 1) (pa_cons (pv 3) pa_nil))) pe_int (fun _ _ => rfl)) pa_nil)))
      (C8.pss_cut (ps_if (PW.pt (pw_or (pt_cmpR op_ne (pe_ix ix_tup (pv 4) pe_int (fun _ _ => rfl)) pe_str (nomark _)) (pw_or1 (pt_not (pt_val (C8.pe_c C_isTest hr (by decide) rfl (pa_cons (pe_ix ix_tup (pv 4) pe_int (fun _ _ => rfl)) (pa_cons (pv 2) pa_nil))))))))
      (pss_one (ps_ret pe_bl))
      pss_nil)
      (C8.pss_cut (ps_if (PW.pt (pw_or (pt_cmpR (op_neC EQ hr (by decide)) (pe_ix ix_tup (pv 4) pe_int (fun _ _ => rfl)) (C8.pe_c C_testMade hr (by decide) rfl (pa_cons (pv 2) pa_nil)) (nomark _)) (pw_or1 (pt_cmpR op_ne (C8.pe_c C_linetestText hr (by decide) rfl (pa_cons (pe_ix ix_tup (pv 4) pe_int (fun _ _ => rfl)) pa_nil)) (pe_join pe_str (pv 3)) (nomark _)))))
      (pss_one (ps_ret pe_bl))
      pss_nil)
      (pss_cons (ps_if (pt_not (pt_val (C8.pe_c C_isWrongRight hr (by decide) rfl (pa_cons (pv 1) (pa_cons (pv 3) pa_nil)))))
      (pss_one (ps_ret pe_bl))
      pss_nil)
      (pss_cons (ps_set (i := 5) sc_law.nd rfl (Or.inl rfl) (C8.pe_c C_testMade hr (by decide) rfl (pa_cons (pe_op op_catT (pe_slice sl_tup (pv 2) po_none (po_some pe_int)) (pe_tup (pa_cons (pe_not (pe_ix ix_tup (pv 2) pe_int (fun _ _ => rfl))) pa_nil))) pa_nil)))
      (C8.pss_cut (ps_if (PW.pt (pw_or (pt_cmpR (op_neC EQ hr (by decide)) (pe_cx0 C_readLinetest hr (by decide) rfl (pa_cons (pe_join pe_str (pv 3)) pa_nil)) (pe_ix ix_tup (pv 4) pe_int (fun _ _ => rfl)) (nomark _)) (pw_or1 (pt_cmpR (op_eqC EQ hr (by decide)) (pe_ix ix_tup (pv 4) pe_int (fun _ _ => rfl)) (pv 5) (nomark _)))))
      (pss_one (ps_ret pe_bl))
      pss_nil)
      (pss_cons (ps_asg (C8.pe_c C_beyond hr (by decide) rfl (pa_cons (pv 1) (pa_cons (pv 2) pa_nil))) (pg_tup (by rfl) (pgs_cons (pg_name (i := 6) sc_law.nd rfl (Or.inl rfl)) (pgs_cons (pg_name (i := 7) sc_law.nd rfl (Or.inl rfl)) pgs_nil))))
      (pss_cons (ps_asg (C8.pe_c C_beyond hr (by decide) rfl (pa_cons (pv 1) (pa_cons (pv 2) pa_nil))) (pg_tup (by rfl) (pgs_cons (pg_name (i := 8) sc_law.nd rfl (Or.inl rfl)) (pgs_cons (pg_name (i := 9) sc_law.nd rfl (Or.inl rfl)) pgs_nil))))
      (pss_cons (ps_set (i := 10) sc_law.nd rfl (Or.inl rfl) (C8.pe_c C_draw hr (by decide) rfl (pa_cons (pv 1) (pa_cons pe_int pa_nil))))
      (pss_cons (ps_set (i := 11) sc_law.nd rfl (Or.inl rfl) (C8.pe_c C_anyPlain hr (by decide) rfl (pa_cons (pv 1) pa_nil)))
      (C8.pss_cut (ps_if (pt_cmpR op_eq (pv 10) pe_int (nomark _))
      (pss_one (ps_set (i := 6) sc_law.nd rfl (Or.inl rfl) (pe_tup (pa_cons pe_str (pa_cons pe_non (pa_cons (pv 6) (pa_cons (pv 11) (pa_cons pe_bl pa_nil))))))))
      pss_nil)
      (C8.pss_cut (ps_if (pt_cmpR op_eq (pv 10) pe_int (nomark _))
      (pss_one (ps_set (i := 6) sc_law.nd rfl (Or.inl rfl) (pe_tup (pa_cons pe_str (pa_cons pe_non (pa_cons (pv 11) (pa_cons (pv 6) (pa_cons pe_bl pa_nil))))))))
      pss_nil)
      (C8.pss_cut (ps_if (pt_cmpR op_eq (pv 10) pe_int (nomark _))
      (pss_one (ps_set (i := 6) sc_law.nd rfl (Or.inl rfl) (pe_tup (pa_cons pe_str (pa_cons pe_non (pa_cons (pv 6) (pa_cons (pv 8) (pa_cons pe_bl pa_nil))))))))
      pss_nil)
      (pss_one (ps_ret (pe_cmpR (op_eqD hr.units) (C8.pe_c C_lawRead hr (by decide) rfl (pa_cons (pe_ix ix_tup (C8.pe_c C_lineOfWords hr (by decide) rfl (pa_cons (pv 1) (pa_cons (C8.pe_c C_testWords hr (by decide) rfl (pa_cons (pv 6) pa_nil)) pa_nil))) pe_int (fun _ _ => rfl)) pa_nil)) (pv 7) (nomark _)))))))))))))))))))), ?_⟩
  obtain ⟨a, ns, rfl, hS, hl63, q⟩ := h
  refine ⟨_, rfl, a, ns, rfl, hS, hl63, fun H0 p c ks0 hp0 => ?_⟩
  refine ⟨_, rfl, p, c, 0, rfl, hp0, by omega, fun H1 ck t k1 p1 ot hck => ?_⟩
  have tc := okt_tsc ot
  refine ⟨_, rfl, ck, t, rfl, hck, tc, fun H2 lw s2 hlw => ?_⟩
  have p2 := p1.same s2
  refine ⟨_, rfl, _, rfl, p, c, lw, 60, twT t, rfl, p2, by omega, hlw, Nat.le_trans (twT_len t) (by decide), tw_ok tc, fun H3 la cl is e k3 p3 hla hcl hm hg h1000 he => ?_⟩
  have lexx := line_lex (e := e) hm hg (tw_good tc)
  have ccl : (cols 0 is).length = (tW t).length := by
    rw [cols_length, ← List.length_map (f := fun x : Nat × List Nat => x.2), hm]
    show (List.map _ _).length = _
    rw [List.length_map]
  refine ⟨la, _, _, _, rfl, rfl, SqT.of hla, rfl, _, _, frm t, none, rfl, lines_le h1000 he, lexx, tok_good (tw_good tc) (tw_nb t) _, fm_ok tc ccl, by rw [frm_eq]; exact okt_md ot, fun _ H4 to tb s4 hto htb => ?_, fun e he => by cases he⟩
  rw [mk_frm] at htb
  have ck4 : CkAt H4 ck t := ((hck.sm s2).tk k3.tk).sm s4
  have lw4 : H4 lw = some (.lst (wL (twT t))) := s4 _ _ (k3.lst hlw)
  have p4 := p3.same s4
  have Z : ∀ {H' : Hp}, Same H4 H' → CkAt H' ck t ∧ H' lw = some (.lst (wL (twT t))) ∧ PenAt H' p c 80 ∧ H' to = some (.tup [.str "told", .ref tb]) ∧ TsAt CL H' tb t := fun {H'} s => ⟨ck4.sm s, s _ _ lw4, p4.same s, s _ _ hto, htb.sm s⟩
  refine ⟨fun σ' H' => σ' = [some (.ref a), some (.ref p), some (.ref ck), some (.ref lw), some (.ref to), none, none, none, none, none, none, none] ∧ Same H4 H', ?_, ?_⟩
  · refine ⟨_, rfl, to, _, _, _, rfl, rfl, SqT.of hto, rfl, rfl, _, rfl, ifn (by rw [decide_eq_true rfl]; rfl) ?_⟩
    exact ⟨_, rfl, to, _, _, _, rfl, rfl, SqT.of hto, rfl, _, rfl, tb, ck, t, rfl, htb, ck4, ot, fun H5 s5 => ⟨true, rfl, ifn rfl ⟨rfl, s5⟩⟩⟩
  rintro σ' H5 ⟨rfl, s5⟩
  have hB : (" " : Str) = S [32] := by decide +kernel
  refine ⟨fun σ' H' => σ' = [some (.ref a), some (.ref p), some (.ref ck), some (.ref lw), some (.ref to), none, none, none, none, none, none, none] ∧ Same H4 H', ?_, ?_⟩
  · obtain ⟨z1, z2, z3, z4, z5⟩ := Z s5
    refine ⟨_, rfl, to, _, _, _, rfl, rfl, SqT.of z4, rfl, _, rfl, ck, t, rfl, z1, ot, fun H6 o s6 ho => ?_⟩
    obtain ⟨d1, f1, e1⟩ := ts_i (z5.sm s6)
    obtain ⟨d2, f2, e2⟩ := ts_i ho
    have s56 := Same.trans s5 s6
    refine ⟨tb, o, _, d1, d2, _, _, rfl, rfl, e1, e2, ⟨t, t, z5.sm s6, ho, ot, ot, rfl⟩, fun H7 s7 => ?_⟩
    rw [eqT_all ot]
    have s57 := Same.trans s56 s7
    obtain ⟨y1, y2, y3, y4, y5⟩ := Z s57
    refine ⟨_, rfl, ifn rfl ?_⟩
    refine ⟨_, rfl, to, _, _, _, rfl, rfl, SqT.of y4, rfl, tb, t, rfl, y5, ot, fun H8 s8 => ?_⟩
    have s58 := Same.trans s57 s8
    obtain ⟨x1, x2, x3, x4, x5⟩ := Z s58
    refine ⟨⟨_, rfl⟩, _, rfl, " ", lw, (twT t).map S, rfl, rfl, .inl (SqL.of (by rw [← map_S]; exact x2)), tw_sum tc, ?_⟩
    rw [hB, join_S]
    exact ⟨rfl, _, rfl, ifn (by rw [decide_eq_true rfl]; rfl) ⟨rfl, s58⟩⟩
  rintro σ' H6 ⟨rfl, s6⟩
  obtain ⟨z1, z2, z3, z4, z5⟩ := Z s6
  refine ⟨_, rfl, _, rfl, p, c, lw, 80, t, rfl, z3, by omega, z2, tc, fun H7 k7 p7 => ⟨true, rfl, ifn rfl ?_⟩⟩
  have Z7 : CkAt H7 ck t ∧ H7 lw = some (.lst (wL (twT t))) ∧ H7 to = some (.tup [.str "told", .ref tb]) ∧ True := ⟨z1.tk k7.tk, k7.lst z2, k7.tup z4, trivial⟩
  have tb7 : TsAt CL H7 tb t := ts_ks z5 k7
  obtain ⟨y1, y2, y4, _⟩ := Z7
  -- the opposite
  obtain ⟨zz, x, y, h2, back⟩ := ck_l y1
  refine ⟨_, rfl, _, rfl, ck, _, rfl, SqT.of h2, (by show ¬ (HT.sIx 5 0 none = 0 ∧ HT.sIx 5 5 (some 4) = 5); decide), fun u hu => ?_⟩
  have t8 := same_new (Same.refl H7) hu (.tup (cutV (cT zz x y t.neg) none (some 4)))
  have hu8 : (upd H7 u (.tup (cutV (cT zz x y t.neg) none (some 4)))) u = some (.tup [.str zz.1, zz.2, x, y]) := upd_same
  generalize (upd H7 u (.tup (cutV (cT zz x y t.neg) none (some 4)))) = H8 at t8 hu8 ⊢
  refine ⟨_, rfl, ck, _, _, _, rfl, rfl, SqT.of (t8 _ _ h2), rfl, t.neg, rfl, szB (by show 1 ≤ 1000000; decide), fun e9 he9 => ?_⟩
  have t9 := same_new (Same.refl H8) he9 (.tup [.bl (!t.neg)])
  refine ⟨u, e9, [.str zz.1, zz.2, x, y], _, rfl, rfl, SqT.of (t9 _ _ hu8), SqT.of upd_same, (fun z => nomatch z), szB (by show 4 + 1 ≤ 1000000; decide), (fun z => nomatch z), fun _ g hg => ?_⟩
  have t10 := same_new (Same.trans t8 t9) hg (.tup ([.str zz.1, zz.2, x, y] ++ [.bl (!t.neg)]))
  have ckg := back (!t.neg) _ g (Ks.of t10).tk upd_same
  generalize (upd (upd H8 e9 (.tup [.bl (!t.neg)])) g (.tup ([.str zz.1, zz.2, x, y] ++ [.bl (!t.neg)]))) = H10 at t10 ckg ⊢
  refine ⟨g, t.sg (!t.neg), rfl, ckg, ot.sg _, fun H11 o s11 ho => ?_⟩
  have t11 := Same.trans t10 s11
  have tb11 := tb7.sm t11
  refine ⟨fun σ' H' => σ' = [some (.ref a), some (.ref p), some (.ref ck), some (.ref lw), some (.ref to), some (.ref o), none, none, none, none, none, none] ∧ Same H11 H', ?_, ?_⟩
  · refine ⟨⟨_, rfl⟩, _, rfl, " ", lw, (twT t).map S, rfl, rfl, .inl (SqL.of (by rw [← map_S]; exact t11 _ _ y2)), tw_sum tc, ?_⟩
    rw [hB, join_S]
    have jl := join_len (twT t) fun x hx => (tw_ok tc x hx).2
    have tl := twT_len t
    have jc : (cols 0 (js (twT t))).length = (tW t).length := by
      rw [cols_length, ← List.length_map (f := fun x : Nat × List Nat => x.2), js_map]
      show (List.map _ _).length = _
      rw [List.length_map]
    refine ⟨_, _, some (frm t), [], rfl, by omega, join_lex (tw_good tc), tok_good (tw_good tc) (tw_nb t) _, fm_ok tc jc, (fun z => by cases z), fun f hf => ?_⟩
    cases hf
    refine ⟨rfl, none, by rw [frm_eq]; exact okt_md ot, fun _ H12 b s12 tsb => ?_, fun e he => by cases he⟩
    rw [mk_frm] at tsb
    have t12 := Same.trans t11 s12
    obtain ⟨d1, f1, e1⟩ := ts_i tsb
    obtain ⟨d2, f2, e2⟩ := ts_i (tb7.sm t12)
    refine ⟨_, rfl, to, _, _, _, rfl, rfl, SqT.of (t12 _ _ y4), rfl, ?_⟩
    refine ⟨b, tb, _, d1, d2, _, _, rfl, rfl, e1, e2, ⟨t, t, tsb, tb7.sm t12, ot, ot, rfl⟩, fun H13 s13 => ?_⟩
    rw [eqT_all ot]
    have t13 := Same.trans t12 s13
    have s123 := Same.trans s12 s13
    refine ⟨_, rfl, ifn rfl ?_⟩
    obtain ⟨d3, f3, e3⟩ := ts_i (tb7.sm t13)
    obtain ⟨d4, f4, e4⟩ := ts_i (ho.sm s123)
    refine ⟨_, rfl, to, _, _, _, rfl, rfl, SqT.of (t13 _ _ y4), rfl, _, rfl, ?_⟩
    refine ⟨tb, o, _, d3, d4, _, _, rfl, rfl, e3, e4, ⟨t, t.sg (!t.neg), tb7.sm t13, ho.sm s123, ot, ot.sg _, rfl⟩, fun H14 s14 => ?_⟩
    rw [eqT_opp]
    exact ⟨_, rfl, ifn rfl ⟨rfl, Same.trans s123 s14⟩⟩
  rintro σ' H12 ⟨rfl, s12⟩
  have t12 := Same.trans t11 s12
  have p12 := p7.same t12
  -- beyond
  refine ⟨_, rfl, _, rfl, p, c, 140, .ref ck, rfl, p12, by omega, fun H13 r1 a1 d1 z1 e1 k13 p13 h1 r13 ha1 hd1 => ?_⟩
  refine ⟨r1, _, rfl, SqT.of r13, rfl, _, _, rfl, _, _, rfl, rfl, ?_⟩
  refine ⟨_, rfl, _, rfl, p, c, 180, .ref ck, rfl, p13, by omega, fun H14 r2 a2 d2 z2 e2 k14 p14 h2' r14 ha2 hd2 => ?_⟩
  refine ⟨r2, _, rfl, SqT.of r14, rfl, _, _, rfl, _, _, rfl, rfl, ?_⟩
  refine ⟨_, rfl, p, c, 220, 4, rfl, p14, by omega, by decide, by decide, fun H15 wy k15 p15 hwy => ?_⟩
  refine ⟨_, rfl, p, c, 221, rfl, p15, by omega, fun H16 a3 z3 k16 p16 oz3 ha3 => ?_⟩
  have k456 := (k14.trans k15).trans k16
  have A1 : H16 a1 = some (.tup (cT z1 .non .non false)) := k456.tup ha1
  have A2 : H16 a2 = some (.tup (cT z2 .non .non false)) := (k15.trans k16).tup ha2
  have D1 : DueAt H16 d1 e1 := hd1.ks k456
  have B0 : ∀ {H' : Hp}, Same H16 H' → ∃ tt, CkAt H' a1 tt ∧ TsC tt ∧ MdR (psT tt) (some e1) := fun {H'} s => ⟨.pl z1 false, s _ _ A1, plr_plc h1, .one h1⟩
  refine ⟨fun σ' H' => ∃ b : Addr, σ' = [some (.ref a), some (.ref p), some (.ref ck), some (.ref lw), some (.ref to), some (.ref o), some (.ref b), some (.ref d1), some (.ref a2), some (.ref d2), some (.int ((wy : Nat) : Int)), some (.ref a3)] ∧ Same H16 H' ∧ (∃ tt, CkAt H' b tt ∧ TsC tt ∧ MdR (psT tt) (some e1)) ∧ (¬ V.int ((wy : Nat) : Int) = V.int 1 → b = a1), ?_, ?_⟩
  · refine ⟨_, rfl, rfl, _, rfl, ite2 (fun e => ?_) (fun _ => ?_)⟩
    · refine ⟨_, rfl, _, rfl, szB (by show 5 ≤ 1000000; decide), fun b hb => ?_⟩
      have s := same_new (Same.refl H16) hb (.tup (cT ("from", .non) (.ref a1) (.ref a3) false))
      exact ⟨b, rfl, s, ⟨.rg z1 z3 false, ⟨a1, a3, upd_same, s _ _ A1, s _ _ ha3⟩, ⟨plr_plc h1, okp_plc oz3⟩, .fst h1 ⟨_, .ok oz3⟩⟩, fun n => absurd (of_decide_eq_true e) n⟩
    · exact ⟨a1, rfl, Same.refl _, B0 (Same.refl _), fun _ => rfl⟩
  rintro σ' H17 ⟨b, rfl, s17, bs, hb1⟩
  refine ⟨fun σ' H' => ∃ b : Addr, σ' = [some (.ref a), some (.ref p), some (.ref ck), some (.ref lw), some (.ref to), some (.ref o), some (.ref b), some (.ref d1), some (.ref a2), some (.ref d2), some (.int ((wy : Nat) : Int)), some (.ref a3)] ∧ Same H16 H' ∧ (∃ tt, CkAt H' b tt ∧ TsC tt ∧ MdR (psT tt) (some e1)) ∧ (¬ V.int ((wy : Nat) : Int) = V.int 1 → ¬ V.int ((wy : Nat) : Int) = V.int 2 → b = a1), ?_, ?_⟩
  · refine ⟨_, rfl, rfl, _, rfl, ite2 (fun e => ?_) (fun _ => ?_)⟩
    · have e' := of_decide_eq_true e
      obtain rfl : b = a1 := hb1 (by rw [e']; exact fun z => absurd (V.int.inj z) (by decide))
      refine ⟨_, rfl, _, rfl, szB (by show 5 ≤ 1000000; decide), fun b' hb => ?_⟩
      have s := same_new s17 hb (.tup (cT ("from", .non) (.ref a3) (.ref b) true))
      exact ⟨b', rfl, s, ⟨.rg z3 z1 true, ⟨a3, b, upd_same, s _ _ ha3, s _ _ A1⟩, ⟨okp_plc oz3, plr_plc h1⟩, .snd (.ok oz3) h1⟩, fun _ n => absurd e' n⟩
    · exact ⟨b, rfl, s17, bs, fun n _ => hb1 n⟩
  clear bs hb1
  rintro σ' H18 ⟨b', rfl, s18, bs, hb2⟩
  refine ⟨fun σ' H' => ∃ b : Addr, σ' = [some (.ref a), some (.ref p), some (.ref ck), some (.ref lw), some (.ref to), some (.ref o), some (.ref b), some (.ref d1), some (.ref a2), some (.ref d2), some (.int ((wy : Nat) : Int)), some (.ref a3)] ∧ Same H16 H' ∧ (∃ tt, CkAt H' b tt ∧ TsC tt ∧ MdR (psT tt) (some e1)), ?_, ?_⟩
  · refine ⟨_, rfl, rfl, _, rfl, ite2 (fun e => ?_) (fun _ => ?_)⟩
    · have e' := of_decide_eq_true e
      obtain rfl : b' = a1 := hb2 (by rw [e']; exact fun z => absurd (V.int.inj z) (by decide)) (by rw [e']; exact fun z => absurd (V.int.inj z) (by decide))
      refine ⟨_, rfl, _, rfl, szB (by show 5 ≤ 1000000; decide), fun b'' hb => ?_⟩
      have s := same_new s18 hb (.tup (cT ("from", .non) (.ref b') (.ref a2) false))
      exact ⟨b'', rfl, s, ⟨.rg z1 z2 false, ⟨b', a2, upd_same, s _ _ A1, s _ _ A2⟩, ⟨plr_plc h1, plr_plc h2'⟩, .fst h1 ⟨_, h2'⟩⟩⟩
    · exact ⟨b', rfl, s18, bs⟩
  clear bs hb2
  rintro σ' H19 ⟨b3, rfl, s19, tt, ckb, tcb, mdb⟩
  have p19 := p16.same s19
  refine ⟨_, rfl, _, rfl, b3, tt, rfl, ckb, tcb, fun H20 lb s20 hlb => ?_⟩
  refine ⟨p, c, lb, 241, twT tt, rfl, p19.same s20, by omega, hlb, Nat.le_trans (twT_len tt) (by decide), tw_ok tcb, fun H21 lb2 clb is2 ee k21 p21 hlb2 hclb hm2 hg2 h1000' hee => ?_⟩
  have lex2 := line_lex (e := ee) hm2 hg2 (tw_good tcb)
  have ccl2 : (cols 0 is2).length = (tW tt).length := by
    rw [cols_length, ← List.length_map (f := fun x : Nat × List Nat => x.2), hm2]
    show (List.map _ _).length = _
    rw [List.length_map]
  refine ⟨lb2, _, _, _, rfl, rfl, SqT.of hlb2, rfl, _, _, frm tt, some e1, rfl, lines_le h1000' hee, lex2, tok_good (tw_good tcb) (tw_nb tt) _, fm_ok tcb ccl2, by rw [frm_eq]; exact mdb, (fun z => by cases z), fun e he H22 d s22 due => ?_⟩
  cases he
  have D2 : DueAt H22 d1 e1 := ((((D1.same s19).same s20).ks k21).same s22)
  obtain ⟨D, w1, w2, w3, w4⟩ := due_eq (K := K) (plr_er h1) due D2
  refine ⟨_, rfl, D, D, w1, w2, w3, w3, ?_⟩
  rw [w4]
  exact q _

end
end Vf

set_option maxRecDepth 100000
set_option maxHeartbeats 4000000
namespace Vf
open PySem PySem.Spec PyProof.Rows L2 SX
theorem szS2 {n : Nat} (h : n ≤ 100) : n ≤ sizeLine := szB (by omega)
/-- a def of the module with how its arguments bind -/
def Dn (K : PySem.W.Frag) (mg : Str → Option Value) (x : Str) (st : Stmt) (ps : List Str) : Prop := ∃ (f : Addr) (fd : FuncData), C8.Def K mg x st f fd ∧ Binds K fd ps []
theorem useIt {A B : Prop} (h : A) (k : A → B) : B := k h
theorem useT {K : PySem.W.Frag} {h : Heap} {w : World} {mg : Str → Option Value} {B : Prop} (X : K.In h) (T : Tx K w mg) (k : Tx K w mg → B) : B := k T
section
variable {K : PySem.W.Frag} {h : Heap} {mg : Str → Option Value} {x : Str} {st : Stmt} {ps : List Str} {f d : Addr} {od an : Option Addr} {sl : Array (Option Value)} {oc kV dc pm cd ct : Value} {t : Tok} {w : World}
theorem dn_mk (X : K.In h) (G : h.Ns mainGlobals mg) (a : PySem.W.nsIn K mainGlobals x = some (some (.ref f)))
    (l : K.lookup f = some ⟨oc, od, .func (PySem.W.fnOf x x (C8.fnArgs st) (C8.fnBody st) (C8.fnScope st) .none kV dc pm an cd ct), sl⟩) (c : PySem.W.codeIn K cd x = true) (k : PySem.W.keepIn K (.ref f) = true)
    (hb : ∀ (kV doc pm : Value) (an : Option Addr) (cdv ct : Value) (us : List Value), us.length = ps.length → bindArgs (PySem.W.fnOf x x (C8.fnArgs st) (C8.fnBody st) (C8.fnScope st) .none kV doc pm an cdv ct) ⟨us, []⟩ = pure (ps.zip us)) : Dn K mg x st ps := by
  have F : C8.Fun K x x st f (PySem.W.fnOf x x (C8.fnArgs st) (C8.fnBody st) (C8.fnScope st) .none kV dc pm an cd ct) := ⟨oc, od, .none, kV, dc, pm, an, cd, ct, sl, rfl, l, c⟩
  exact ⟨f, _, ⟨F, PySem.W.mg_of X G a, k⟩, F.binds rfl hb⟩
theorem cst_str {n y : Str} {z : List Nat} (X : K.In h) (G : h.Ns mainGlobals mg) (a : PySem.W.nsIn K mainGlobals n = some (some (.str y t))) (e : y = S z) : ∃ u, mg n = some u ∧ RelV (.str (S z)) u :=
  ⟨_, PySem.W.mg_of X G a, ⟨t, by rw [e]⟩⟩
theorem cst_int {n : Str} {i : Int} (X : K.In h) (G : h.Ns mainGlobals mg) (a : PySem.W.nsIn K mainGlobals n = some (some (.int i t))) : ∃ u, mg n = some u ∧ RelV (.int i) u :=
  ⟨_, PySem.W.mg_of X G a, ⟨t, rfl⟩⟩
theorem cst_kd {n : Str} {es : Array DictEntry} {k : Nat} {g : Str → Option V} (X : K.In h) (G : h.Ns mainGlobals mg) (a : PySem.W.nsIn K mainGlobals n = some (some (.ref d))) (l : K.lookup d = some ⟨.type "dict", none, .dict es k, #[]⟩)
    (hk : PySem.W.KeysLit w.params es.toList) (low : (d == sysModules) = false) (hf : ∀ z, RelO (g z) (findBy Value.isStrOf es z)) : ∃ d, (∃ u, mg n = some u ∧ RelV (.ref d) u) ∧ KD K w d g :=
  ⟨d, ⟨_, PySem.W.mg_of X G a, rfl⟩, es, k, l, hk, low, hf⟩
theorem law_end {P : Program} {fa : Addr} {k : Nat} (X : K.In h) (G : h.Ns mainGlobals mg) (hfa : mg "law" = some (.ref fa)) (a : PySem.W.nsIn K mainGlobals "law" = some (some (.ref f)))
    (l : K.lookup f = some ⟨oc, od, .func (PySem.W.fnOf "law" "law" (C8.fnArgs s_law) (C8.fnBody s_law) (C8.fnScope s_law) .none kV dc pm an cd ct), sl⟩) (c : PySem.W.codeIn K cd "law" = true) (kp : PySem.W.keepIn K (.ref f) = true)
    (ok : ∀ (base : Heap) (fd : FuncData), C8.Def K mg "law" s_law f fd → FnOk P w K mg base C8.CX0 k f fd ["_law_script"] (sp_law K)) :
    ∃ fd : FuncData, (∀ (s : Shared) (v : Value), BindsTo s fd ⟨[v], []⟩ [("_law_script", v)]) ∧ ∀ base : Heap, K.In base → base.Ns mainGlobals mg → FnOk P w K mg base C8.CX0 k fa fd ["_law_script"] (sp_law K) := by
  have e := hfa.symm.trans (PySem.W.mg_of X G a)
  cases e
  exact ⟨_, fun s v => .of_eq rfl, fun base _ _ => ok base _ ⟨⟨oc, od, .none, kV, dc, pm, an, cd, ct, sl, rfl, l, c⟩, PySem.W.mg_of X G a, kp⟩⟩
end
/-- three entries of a dict -/
theorem kd3 {k1 k2 k3 v1 v2 v3 : Str} {h1 h2 h3 : Int} {t1 t2 t3 u1 u2 u3 : Tok} (z : Str) :
    RelO (if z = k1 then some (V.str v1) else if z = k2 then some (.str v2) else if z = k3 then some (.str v3) else none) (findBy Value.isStrOf #[⟨h1, .str k1 t1, .str v1 u1⟩, ⟨h2, .str k2 t2, .str v2 u2⟩, ⟨h3, .str k3 t3, .str v3 u3⟩] z) := by
  unfold findBy
  show RelO _ (([(⟨h1, .str k1 t1, .str v1 u1⟩ : DictEntry), ⟨h2, .str k2 t2, .str v2 u2⟩, ⟨h3, .str k3 t3, .str v3 u3⟩].toArray.find? fun e => Value.isStrOf z e.key).map (·.val))
  rw [List.find?_toArray]
  have q : ∀ (k : Str) (t : Tok), Value.isStrOf z (.str k t) = decide (z = k) := fun k t => by
    show (k == z) = _
    by_cases e : z = k
    · subst e; rw [decide_eq_true rfl]; exact beq_self_eq_true _
    · rw [decide_eq_false e]; exact beq_eq_false_iff_ne.mpr fun y => e y.symm
  by_cases e1 : z = k1
  · rw [if_pos e1, List.find?_cons_of_pos (by show Value.isStrOf z (.str k1 t1) = true; rw [q]; exact decide_eq_true e1)]
    exact ⟨u1, rfl⟩
  · rw [if_neg e1, List.find?_cons_of_neg (by show ¬ Value.isStrOf z (.str k1 t1) = true; rw [q, decide_eq_false e1]; exact Bool.false_ne_true)]
    by_cases e2 : z = k2
    · rw [if_pos e2, List.find?_cons_of_pos (by show Value.isStrOf z (.str k2 t2) = true; rw [q]; exact decide_eq_true e2)]
      exact ⟨u2, rfl⟩
    · rw [if_neg e2, List.find?_cons_of_neg (by show ¬ Value.isStrOf z (.str k2 t2) = true; rw [q, decide_eq_false e2]; exact Bool.false_ne_true)]
      by_cases e3 : z = k3
      · rw [if_pos e3, List.find?_cons_of_pos (by show Value.isStrOf z (.str k3 t3) = true; rw [q]; exact decide_eq_true e3)]
        exact ⟨u3, rfl⟩
      · rw [if_neg e3, List.find?_cons_of_neg (by show ¬ Value.isStrOf z (.str k3 t3) = true; rw [q, decide_eq_false e3]; exact Bool.false_ne_true)]
        exact trivial
/-- a class of errors -/
structure Ec (K : PySem.W.Frag) (mg : Str → Option Value) (n : Str) (C : Addr) : Prop where
  g : mg n = some (.ref C)
  o : OexC K C
  e : ExcC K C
  x : XfC K C
/-! ### the classes -/
/-- the class above all of them -/
def Wc (K : PySem.W.Frag) (W : Addr) : Prop := PySem.W.isClsIn K W = true ∧ PySem.W.typeIn K (.ref W) = some (.type "type")
/-- a class just beneath it -/
def Cb (K : PySem.W.Frag) (C W : Addr) : Prop := PySem.W.typeIn K (.ref C) = some (.type "type") ∧ ∃ cd : ClassData, PySem.W.clsIn K C = some cd ∧ cd.mro = [.ref C, .ref W, .type "ValueError", .type "Exception", .type "BaseException", .type "object"]
def Mt (K : PySem.W.Frag) : Prop := PySem.W.specialIn K (.builtin "object.__class__") "__get__" = some (some (.builtin "getset_descriptor.__get__")) ∧ PySem.W.takesIn K (.builtin "object.__class__") = some true
structure Cc (K : PySem.W.Frag) (mg : Str → Option Value) (n : Str) (C W : Addr) : Prop where
  ec : Ec K mg n C
  b : Cb K C W
structure Kc (K : PySem.W.Frag) (mg : Str → Option Value) (n : Str) (C W : Addr) (fs : List Str) (st : Stmt) : Prop where
  c : Cc K mg n C W
  no : ∀ f ∈ fs, PySem.W.findIn K (.ref C) f = some none
  ne : fs ≠ []
  i : ∃ (fI : Addr) (fd : FuncData) (q : Str), PySem.W.findIn K (.ref C) "__init__" = some (some (.ref fI)) ∧ PySem.W.typeIn K (.ref fI) = some (.type "function") ∧ C8.Fun K "__init__" q st fI fd ∧ Binds K fd (("self" : Str) :: fs) []
structure Kc0 (K : PySem.W.Frag) (mg : Str → Option Value) (n : Str) (C W : Addr) : Prop where
  c : Cc K mg n C W
  x : PySem.W.excIn K C [.type "ValueError", .type "Exception", .type "BaseException", .type "object"] "ValueError.__new__" = true
section
variable {K : PySem.W.Frag} {h : Heap} {mg : Str → Option Value} {w : World}
theorem wc_mk {n : Str} {W : Addr} (X : K.In h) (G : h.Ns mainGlobals mg) (a : PySem.W.nsIn K mainGlobals n = some (some (.ref W))) (c : PySem.W.isClsIn K W = true) (k : PySem.W.typeIn K (.ref W) = some (.type "type")) :
    mg n = some (.ref W) ∧ Wc K W := ⟨PySem.W.mg_of X G a, c, k⟩
theorem mt_mk (_ : K.In h) (n : PySem.W.specialIn K (.builtin "object.__class__") "__get__" = some (some (.builtin "getset_descriptor.__get__"))) (t : PySem.W.takesIn K (.builtin "object.__class__") = some true) : Mt K := ⟨n, t⟩
theorem cl_mk {n : Str} {C W N : Addr} {nm q : Str} {bs : List Value} {sn : List Str} {sub : List Value} {ab : Bool} {col : Option Bool} {dd : Option Addr} {k0 k1 k2 k3 k5 : Option Value} (X : K.In h) (G : h.Ns mainGlobals mg) (_w : mg "WorkshopError" = some (.ref W) ∧ Wc K W) (M : Mt K)
    (a : PySem.W.nsIn K mainGlobals n = some (some (.ref C))) (l : K.lookup C = some (excClassObj nm q C N bs [.ref W, .type "ValueError", .type "Exception", .type "BaseException", .type "object"] true sn sub ab col dd k0 k1 k2 k3 k5 "ValueError.__new__"))
    (s : PySem.W.findIn K (.ref C) "__setattr__" = some (some (.builtin "object.__setattr__"))) (b : PySem.W.subIn K (.ref C) (.type "BaseException") = some true) (y : PySem.W.typeIn K (.ref C) = some (.type "type")) (k : PySem.W.keepIn K (.ref C) = true)
    (g : PySem.W.findIn K (.ref C) "__getattribute__" = some (some (.builtin "BaseException.__getattribute__"))) (hh : PySem.W.findIn K (.ref C) "__getattr__" = some none) (d : PySem.W.hasDictIn K C = true)
    (e : PySem.W.findIn K (.ref C) "__class__" = some (some (.builtin "object.__class__"))) (m : PySem.W.mroIn K C (.type "object") = some true) : Cc K mg n C W :=
  ⟨⟨PySem.W.mg_of X G a, ⟨⟨nm, q, N, bs, _, sn, sub, ab, col, dd, k0, k1, k2, k3, k5, l, rfl⟩, s, b, y, k⟩, ⟨g, hh, b, d, e, M.1, M.2, m⟩, ⟨g, hh, b, d⟩⟩, y, _, (by unfold PySem.W.clsIn; rw [show List.lookup C K = _ from l]), rfl⟩
section
variable {n : Str} {C W fI : Addr} {q f0 f1 f2 : Str} {st : Stmt} {ps : List Str} {oc kV dc pm cd ct : Value} {od an : Option Addr} {sl : Array (Option Value)}
theorem kc_mk {fs : List Str} (c : Cc K mg n C W) (ne : fs ≠ []) (no : ∀ f ∈ fs, PySem.W.findIn K (.ref C) f = some none) (i : PySem.W.findIn K (.ref C) "__init__" = some (some (.ref fI))) (t : PySem.W.typeIn K (.ref fI) = some (.type "function"))
    (l : K.lookup fI = some ⟨oc, od, .func (PySem.W.fnOf "__init__" q (C8.fnArgs st) (C8.fnBody st) (C8.fnScope st) .none kV dc pm an cd ct), sl⟩) (cc : PySem.W.codeIn K cd q = true)
    (hb : ∀ (kV doc pm : Value) (an : Option Addr) (cdv ct : Value) (us : List Value), us.length = (("self" : Str) :: fs).length → bindArgs (PySem.W.fnOf "__init__" q (C8.fnArgs st) (C8.fnBody st) (C8.fnScope st) .none kV doc pm an cdv ct) ⟨us, []⟩ = pure (List.zip (("self" : Str) :: fs) us)) : Kc K mg n C W fs st := by
  have F : C8.Fun K "__init__" q st fI (PySem.W.fnOf "__init__" q (C8.fnArgs st) (C8.fnBody st) (C8.fnScope st) .none kV dc pm an cd ct) := ⟨oc, od, .none, kV, dc, pm, an, cd, ct, sl, rfl, l, cc⟩
  exact ⟨c, no, ne, fI, _, q, i, t, F, F.binds rfl hb⟩
theorem kc_mk1 (c : Cc K mg n C W) (n0 : PySem.W.findIn K (.ref C) f0 = some none) (i : PySem.W.findIn K (.ref C) "__init__" = some (some (.ref fI))) (t : PySem.W.typeIn K (.ref fI) = some (.type "function"))
    (l : K.lookup fI = some ⟨oc, od, .func (PySem.W.fnOf "__init__" q (C8.fnArgs st) (C8.fnBody st) (C8.fnScope st) .none kV dc pm an cd ct), sl⟩) (cc : PySem.W.codeIn K cd q = true)
    (hb : ∀ (kV doc pm : Value) (an : Option Addr) (cdv ct : Value) (us : List Value), us.length = 2 → bindArgs (PySem.W.fnOf "__init__" q (C8.fnArgs st) (C8.fnBody st) (C8.fnScope st) .none kV doc pm an cdv ct) ⟨us, []⟩ = pure (List.zip [("self" : Str), f0] us)) : Kc K mg n C W [f0] st :=
  kc_mk c (fun z => nomatch z) (fun f hf => by rw [List.mem_singleton.mp hf]; exact n0) i t l cc hb
theorem kc_mk2 (c : Cc K mg n C W) (n0 : PySem.W.findIn K (.ref C) f0 = some none) (n1 : PySem.W.findIn K (.ref C) f1 = some none) (i : PySem.W.findIn K (.ref C) "__init__" = some (some (.ref fI))) (t : PySem.W.typeIn K (.ref fI) = some (.type "function"))
    (l : K.lookup fI = some ⟨oc, od, .func (PySem.W.fnOf "__init__" q (C8.fnArgs st) (C8.fnBody st) (C8.fnScope st) .none kV dc pm an cd ct), sl⟩) (cc : PySem.W.codeIn K cd q = true)
    (hb : ∀ (kV doc pm : Value) (an : Option Addr) (cdv ct : Value) (us : List Value), us.length = 3 → bindArgs (PySem.W.fnOf "__init__" q (C8.fnArgs st) (C8.fnBody st) (C8.fnScope st) .none kV doc pm an cdv ct) ⟨us, []⟩ = pure (List.zip [("self" : Str), f0, f1] us)) : Kc K mg n C W [f0, f1] st :=
  kc_mk c (fun z => nomatch z) (fun f hf => by
    simp only [List.mem_cons, List.not_mem_nil, or_false] at hf
    rcases hf with rfl | rfl <;> assumption) i t l cc hb
theorem kc_mk3 (c : Cc K mg n C W) (n0 : PySem.W.findIn K (.ref C) f0 = some none) (n1 : PySem.W.findIn K (.ref C) f1 = some none) (n2 : PySem.W.findIn K (.ref C) f2 = some none) (i : PySem.W.findIn K (.ref C) "__init__" = some (some (.ref fI))) (t : PySem.W.typeIn K (.ref fI) = some (.type "function"))
    (l : K.lookup fI = some ⟨oc, od, .func (PySem.W.fnOf "__init__" q (C8.fnArgs st) (C8.fnBody st) (C8.fnScope st) .none kV dc pm an cd ct), sl⟩) (cc : PySem.W.codeIn K cd q = true)
    (hb : ∀ (kV doc pm : Value) (an : Option Addr) (cdv ct : Value) (us : List Value), us.length = 4 → bindArgs (PySem.W.fnOf "__init__" q (C8.fnArgs st) (C8.fnBody st) (C8.fnScope st) .none kV doc pm an cdv ct) ⟨us, []⟩ = pure (List.zip [("self" : Str), f0, f1, f2] us)) : Kc K mg n C W [f0, f1, f2] st :=
  kc_mk c (fun z => nomatch z) (fun f hf => by
    simp only [List.mem_cons, List.not_mem_nil, or_false] at hf
    rcases hf with rfl | rfl | rfl <;> assumption) i t l cc hb
theorem kc_mk0 (c : Cc K mg n C W) (x : PySem.W.excIn K C [.type "ValueError", .type "Exception", .type "BaseException", .type "object"] "ValueError.__new__" = true) : Kc0 K mg n C W := ⟨c, x⟩
theorem rk_mk {P : Program} {base : Heap} {fs : List Str} (k : Kc K mg n C W fs st)
    (ok : ∀ {f : Addr} {fd : FuncData} {q : Str}, OexC K C → (∀ f ∈ fs, PySem.W.findIn K (.ref C) f = some none) → C8.Fun K "__init__" q st f fd → FnOk P w K mg base C8.CX0 1 f fd (("self" : Str) :: fs) (sp_inx C fs)) : Rk P w K mg base n C fs := by
  obtain ⟨fI, fd, q, i, t, F, b⟩ := k.i
  exact ⟨⟨k.c.ec.g, k.c.ec.o, k.c.ec.x⟩, k.no, fI, fd, _, i, t, ok k.c.ec.o k.no F, b⟩
end
end
/-- the class of tests, told once -/
structure Lt (K : PySem.W.Frag) (mg : Str → Option Value) (C fI fE fT : Addr) : Prop where
  g : mg "LineTest" = some (.ref C)
  a : Ca K C
  mI : Mk K C fI
  eq : OwnC K C fE
  tr : Meth K C "truths" fT
section
variable {K : PySem.W.Frag} {h : Heap} {mg : Str → Option Value} {w : World}
theorem lt_mk {C fI fE fT N : Addr} {nm q : Str} {bs : List Value} {hdct : Bool} {sn : List Str} {sub : List Value} {ab : Bool} {col : Option Bool} {dd : Option Addr} {k0 k1 k2 k3 k5 : Option Value} {newId : String} (X : K.In h) (G : h.Ns mainGlobals mg) (M : Mt K)
    (a : PySem.W.nsIn K mainGlobals "LineTest" = some (some (.ref C))) (l : K.lookup C = some (excClassObj nm q C N bs [.type "object"] hdct sn sub ab col dd k0 k1 k2 k3 k5 newId))
    (pg : PySem.W.plainGet K C Str.empty = true) (hd : PySem.W.hasDictIn K C = true) (po : PySem.W.plainOver K C = true) (sa : PySem.W.findIn K (.ref C) "__setattr__" = some (some (.builtin "object.__setattr__")))
    (e : PySem.W.findIn K (.ref C) "__class__" = some (some (.builtin "object.__class__"))) (m : PySem.W.mroIn K C (.type "object") = some true)
    (n1 : PySem.W.findIn K (.ref C) "word" = some none) (n2 : PySem.W.findIn K (.ref C) "argument" = some none) (n3 : PySem.W.findIn K (.ref C) "first" = some none) (n4 : PySem.W.findIn K (.ref C) "second" = some none) (n5 : PySem.W.findIn K (.ref C) "negated" = some none)
    (mk : PySem.W.makesIn K C = true) (i : PySem.W.findIn K (.ref C) "__init__" = some (some (.ref fI))) (fi : PySem.W.isFn K (.ref fI) = true) (kp : PySem.W.keepIn K (.ref C) = true)
    (no : PySem.W.nsOkIn K N = true) (e1 : PySem.W.nsIn K N "__eq__" = some (some (.ref fE))) (e2 : PySem.W.nsIn K N "__ne__" = some none) (e3 : PySem.W.findIn K (.ref C) "__eq__" = some (some (.ref fE))) (fe : PySem.W.isFn K (.ref fE) = true)
    (t : PySem.W.findIn K (.ref C) "truths" = some (some (.ref fT))) (ft : PySem.W.isFn K (.ref fT) = true) (kt : PySem.W.keepIn K (.ref fT) = true) : Lt K mg C fI fE fT where
  g := PySem.W.mg_of X G a
  a := ⟨⟨⟨pg, hd, po, sa⟩, e, M.1, M.2, m, by unfold PySem.W.kitOne; exact if_pos (beq_self_eq_true _)⟩, n1, n2, n3, n4, n5⟩
  mI := ⟨mk, i, fi, kp⟩
  eq := ⟨⟨nm, q, N, bs, hdct, sn, sub, ab, col, dd, k0, k1, k2, k3, k5, newId, l, no, e1, e2⟩, e3, fe⟩
  tr := ⟨t, ft, kt⟩
theorem fn_mk {m q : Str} {st : Stmt} {ps : List Str} {f : Addr} {od an : Option Addr} {sl : Array (Option Value)} {oc kV dc pm cd ct : Value}
    (l : K.lookup f = some ⟨oc, od, .func (PySem.W.fnOf m q (C8.fnArgs st) (C8.fnBody st) (C8.fnScope st) .none kV dc pm an cd ct), sl⟩) (c : PySem.W.codeIn K cd q = true)
    (hb : ∀ (kV doc pm : Value) (an : Option Addr) (cdv ct : Value) (us : List Value), us.length = ps.length → bindArgs (PySem.W.fnOf m q (C8.fnArgs st) (C8.fnBody st) (C8.fnScope st) .none kV doc pm an cdv ct) ⟨us, []⟩ = pure (ps.zip us)) : ∃ (q : Str) (fd : FuncData), C8.Fun K m q st f fd ∧ Binds K fd ps [] := by
  have F : C8.Fun K m q st f (PySem.W.fnOf m q (C8.fnArgs st) (C8.fnBody st) (C8.fnScope st) .none kV dc pm an cd ct) := ⟨oc, od, .none, kV, dc, pm, an, cd, ct, sl, rfl, l, c⟩
  exact ⟨q, _, F, F.binds rfl hb⟩
theorem fnm_mk {m q : Str} {st : Stmt} {ps : List Str} {C f : Addr} {od an : Option Addr} {sl : Array (Option Value)} {oc kV dc pm cd ct : Value} (_ : PySem.W.findIn K (.ref C) m = some (some (.ref f)))
    (l : K.lookup f = some ⟨oc, od, .func (PySem.W.fnOf m q (C8.fnArgs st) (C8.fnBody st) (C8.fnScope st) .none kV dc pm an cd ct), sl⟩) (c : PySem.W.codeIn K cd q = true)
    (hb : ∀ (kV doc pm : Value) (an : Option Addr) (cdv ct : Value) (us : List Value), us.length = ps.length → bindArgs (PySem.W.fnOf m q (C8.fnArgs st) (C8.fnBody st) (C8.fnScope st) .none kV doc pm an cdv ct) ⟨us, []⟩ = pure (ps.zip us)) : ∃ (q : Str) (fd : FuncData), C8.Fun K m q st f fd ∧ Binds K fd ps [] := fn_mk l c hb
theorem cst_tup {n : Str} {d : Addr} {xs : List V} {its : Array Value} {od : Option Addr} {sl : Array (Option Value)} {k : Nat} (X : K.In h) (G : h.Ns mainGlobals mg) (a : PySem.W.nsIn K mainGlobals n = some (some (.ref d))) (l : K.lookup d = some ⟨.type "tuple", od, .seq its k, sl⟩) (v : Vals xs its.toList) (z : its.size ≤ 100) :
    ∃ d, (∃ u, mg n = some u ∧ RelV (.ref d) u) ∧ ∀ H : Hp, SqT K H d xs := ⟨d, ⟨_, PySem.W.mg_of X G a, rfl⟩, fun _ => .inr ⟨_, its, k, l, rfl, rfl, szS2 z, v⟩⟩
theorem kd2r {k1 k2 : Str} {a b : Addr} {h1 h2 : Int} {t1 t2 : Tok} (z : Str) :
    RelO (if z = k1 then some (V.ref a) else if z = k2 then some (.ref b) else none) (findBy Value.isStrOf #[⟨h1, .str k1 t1, .ref a⟩, ⟨h2, .str k2 t2, .ref b⟩] z) := by
  unfold findBy
  show RelO _ (([(⟨h1, .str k1 t1, .ref a⟩ : DictEntry), ⟨h2, .str k2 t2, .ref b⟩].toArray.find? fun e => Value.isStrOf z e.key).map (·.val))
  rw [List.find?_toArray]
  have q : ∀ (k : Str) (t : Tok), Value.isStrOf z (.str k t) = decide (z = k) := fun k t => by
    show (k == z) = _
    by_cases e : z = k
    · subst e; rw [decide_eq_true rfl]; exact beq_self_eq_true _
    · rw [decide_eq_false e]; exact beq_eq_false_iff_ne.mpr fun y => e y.symm
  by_cases e1 : z = k1
  · rw [if_pos e1, List.find?_cons_of_pos (by show Value.isStrOf z (.str k1 t1) = true; rw [q]; exact decide_eq_true e1)]
    exact rfl
  · rw [if_neg e1, List.find?_cons_of_neg (by show ¬ Value.isStrOf z (.str k1 t1) = true; rw [q, decide_eq_false e1]; exact Bool.false_ne_true)]
    by_cases e2 : z = k2
    · rw [if_pos e2, List.find?_cons_of_pos (by show Value.isStrOf z (.str k2 t2) = true; rw [q]; exact decide_eq_true e2)]
      exact rfl
    · rw [if_neg e2, List.find?_cons_of_neg (by show ¬ Value.isStrOf z (.str k2 t2) = true; rw [q, decide_eq_false e2]; exact Bool.false_ne_true)]
      exact True.intro
theorem cst_bounds {d da db : Addr} {h1 h2 : Int} {t1 t2 t3 t4 t5 t6 : Tok} {n n1 n2 : Nat} {o1 o2 : Option Addr} {s1 s2 : Array (Option Value)} (X : K.In h) (G : h.Ns mainGlobals mg) (a : PySem.W.nsIn K mainGlobals "BOUNDS" = some (some (.ref d)))
    (l : K.lookup d = some ⟨.type "dict", none, .dict #[⟨h1, .str "short" t1, .ref da⟩, ⟨h2, .str "number" t2, .ref db⟩] n, #[]⟩) (hk : PySem.W.KeysLit w.params [⟨h1, .str "short" t1, .ref da⟩, ⟨h2, .str "number" t2, .ref db⟩]) (low : (d == sysModules) = false)
    (la : K.lookup da = some ⟨.type "tuple", o1, .seq #[.int 0 t3, .int 40 t4] n1, s1⟩) (lb : K.lookup db = some ⟨.type "tuple", o2, .seq #[.int 1 t5, .int 6 t6] n2, s2⟩) :
    ∃ d, (∃ u, mg "BOUNDS" = some u ∧ RelV (.ref d) u) ∧ ∃ a b, KD K w d (fun z => if z = "short" then some (.ref a) else if z = "number" then some (.ref b) else none) ∧ (∀ H : Hp, SqT K H a [.int 0, .int 40]) ∧ ∀ H : Hp, SqT K H b [.int 1, .int 6] :=
  ⟨d, ⟨_, PySem.W.mg_of X G a, rfl⟩, da, db, ⟨_, n, l, hk, low, kd2r⟩, fun _ => .inr ⟨_, _, n1, la, rfl, rfl, szS2 (by show 2 ≤ 100; decide), .cons ⟨_, rfl⟩ (.cons ⟨_, rfl⟩ .nil)⟩, fun _ => .inr ⟨_, _, n2, lb, rfl, rfl, szS2 (by show 2 ≤ 100; decide), .cons ⟨_, rfl⟩ (.cons ⟨_, rfl⟩ .nil)⟩⟩
theorem dn_mkD {x : Str} {st : Stmt} {ps : List Str} {f tT : Addr} {od an td : Option Addr} {sl tsl : Array (Option Value)} {oc kV dc pm cd ct tc : Value} {m : Nat} (X : K.In h) (G : h.Ns mainGlobals mg) (a : PySem.W.nsIn K mainGlobals x = some (some (.ref f)))
    (l : K.lookup f = some ⟨oc, od, .func (PySem.W.fnOf x x (C8.fnArgs st) (C8.fnBody st) (C8.fnScope st) (.ref tT) kV dc pm an cd ct), sl⟩) (lT : K.lookup tT = some ⟨tc, td, .seq #[.none] m, tsl⟩) (c : PySem.W.codeIn K cd x = true) (k : PySem.W.keepIn K (.ref f) = true)
    (hb : ∀ (T : Addr) (kV doc pm : Value) (an : Option Addr) (cdv ct : Value) (us its : List Value), us.length = ps.length → its.length = 1 → ∃ k, bindArgs (PySem.W.fnOf x x (C8.fnArgs st) (C8.fnBody st) (C8.fnScope st) (.ref T) kV doc pm an cdv ct) ⟨us, []⟩ = seqItems? (.ref T) >>= k ∧ k (some its.toArray) = pure (ps.zip us)) : Dn K mg x st ps := by
  have D : FunD K x x (C8.fnArgs st) (C8.fnBody st) (C8.fnScope st) [.non] [] f (PySem.W.fnOf x x (C8.fnArgs st) (C8.fnBody st) (C8.fnScope st) (.ref tT) kV dc pm an cd ct) :=
    ⟨⟨oc, od, .ref tT, kV, dc, pm, an, cd, ct, sl, rfl, l, c, .inr ⟨fun z => (nomatch z), tT, _, [.none], m, rfl, lT, rfl, .cons rfl .nil⟩, .inl rfl⟩, k⟩
  obtain ⟨ds, v, b⟩ := FunD.binds1 (ps := ps) D ps.length 1 (fun z => nomatch z) rfl (fun T kV doc pm an cdv ct us its h1 h2 => by
    obtain ⟨k, e1, e2⟩ := hb T kV doc pm an cdv ct us its h1 h2
    refine ⟨k, e1, ?_⟩
    rw [show its.drop 1 = [] from List.drop_eq_nil_of_le (Nat.le_of_eq h2), List.append_nil]
    exact e2)
  cases v
  exact ⟨f, _, ⟨⟨oc, od, .ref tT, kV, dc, pm, an, cd, ct, sl, rfl, l, c⟩, PySem.W.mg_of X G a, k⟩, b⟩
theorem xf_mk {CB CN CW : Addr} (cB : Cc K mg "BadWord" CB CW) (cN : Cc K mg "BadNumber" CN CW) (bb : PySem.W.exmOne K (.ref CB) (.ref CB) = some true) (nb : PySem.W.exmOne K (.ref CN) (.ref CB) = some false) (nn : PySem.W.exmOne K (.ref CN) (.ref CN) = some true) (bn : PySem.W.exmOne K (.ref CB) (.ref CN) = some false)
    (kb : PySem.W.kitOne K (.ref CB) (.ref CW) = some true) (kn : PySem.W.kitOne K (.ref CN) (.ref CW) = some true) : XF K CB CN CW := ⟨bb, nb, nn, bn, kb, kn, cB.ec.e, cN.ec.e⟩
end
/-- the class of readers -/
structure Wr (K : PySem.W.Frag) (mg : Str → Option Value) (C fI : Addr) : Prop where
  g : mg "WordReader" = some (.ref C)
  a : CaR K C
  mI : Mk K C fI
/-- a method of it -/
def Mn (K : PySem.W.Frag) (C : Addr) (m : Str) (st : Stmt) (ps : List Str) : Prop := ∃ (f : Addr) (q : Str) (fd : FuncData), Meth K C m f ∧ C8.Fun K m q st f fd ∧ Binds K fd ps []
section
variable {K : PySem.W.Frag} {h : Heap} {mg : Str → Option Value} {w : World}
theorem wr_mk {C fI : Addr} (X : K.In h) (G : h.Ns mainGlobals mg) (M : Mt K)
    (a : PySem.W.nsIn K mainGlobals "WordReader" = some (some (.ref C)))
    (pg : PySem.W.plainGet K C Str.empty = true) (hd : PySem.W.hasDictIn K C = true) (po : PySem.W.plainOver K C = true) (sa : PySem.W.findIn K (.ref C) "__setattr__" = some (some (.builtin "object.__setattr__")))
    (e : PySem.W.findIn K (.ref C) "__class__" = some (some (.builtin "object.__class__"))) (m : PySem.W.mroIn K C (.type "object") = some true)
    (n1 : PySem.W.findIn K (.ref C) "_words" = some none) (n2 : PySem.W.findIn K (.ref C) "_number" = some none) (n3 : PySem.W.findIn K (.ref C) "_end" = some none) (n4 : PySem.W.findIn K (.ref C) "_at" = some none)
    (mk : PySem.W.makesIn K C = true) (i : PySem.W.findIn K (.ref C) "__init__" = some (some (.ref fI))) (fi : PySem.W.isFn K (.ref fI) = true) (kp : PySem.W.keepIn K (.ref C) = true) : Wr K mg C fI where
  g := PySem.W.mg_of X G a
  a := ⟨⟨⟨pg, hd, po, sa⟩, e, M.1, M.2, m, by unfold PySem.W.kitOne; exact if_pos (beq_self_eq_true _)⟩, n1, n2, n3, n4⟩
  mI := ⟨mk, i, fi, kp⟩
theorem mn_mk {m q : Str} {st : Stmt} {ps : List Str} {C fI f : Addr} {od an : Option Addr} {sl : Array (Option Value)} {oc kV dc pm cd ct : Value} (_ : Wr K mg C fI) (t : PySem.W.findIn K (.ref C) m = some (some (.ref f))) (ft : PySem.W.isFn K (.ref f) = true) (kt : PySem.W.keepIn K (.ref f) = true)
    (l : K.lookup f = some ⟨oc, od, .func (PySem.W.fnOf m q (C8.fnArgs st) (C8.fnBody st) (C8.fnScope st) .none kV dc pm an cd ct), sl⟩) (c : PySem.W.codeIn K cd q = true)
    (hb : ∀ (kV doc pm : Value) (an : Option Addr) (cdv ct : Value) (us : List Value), us.length = ps.length → bindArgs (PySem.W.fnOf m q (C8.fnArgs st) (C8.fnBody st) (C8.fnScope st) .none kV doc pm an cdv ct) ⟨us, []⟩ = pure (ps.zip us)) : Mn K C m st ps := by
  have F : C8.Fun K m q st f (PySem.W.fnOf m q (C8.fnArgs st) (C8.fnBody st) (C8.fnScope st) .none kV dc pm an cd ct) := ⟨oc, od, .none, kV, dc, pm, an, cd, ct, sl, rfl, l, c⟩
  exact ⟨f, q, _, ⟨t, ft, kt⟩, F, F.binds rfl hb⟩
theorem tt_mk {CT CW : Addr} (_ : Cc K mg "BadText" CT CW) (tt : PySem.W.exmOne K (.ref CT) (.ref CT) = some true) : PySem.W.exmOne K (.ref CT) (.ref CT) = some true := tt
end

end Vf

set_option maxRecDepth 100000
set_option maxHeartbeats 4000000
namespace Vf
open PySem PySem.Spec PyProof.Rows L2 SX
section
variable {P : Program} {w : World} {K : PySem.W.Frag} {mg : Str → Option Value} {base : Heap}
theorem asl : ∃ l : List Nat, (" !#$&'()*+,-./0123456789:;<=>?@ABCDEFGHIJKLMNOPQRSTUVWXYZ[\\]^_`abcdefghijklmnopqrstuvwxyz{|}~" : Str) = S l ∧ (∀ c ∈ l, c ∈ signsL ∧ c ≠ 10) ∧ 1 ≤ l.length ∧ l.length ≤ 100 :=
  ⟨(" !#$&'()*+,-./0123456789:;<=>?@ABCDEFGHIJKLMNOPQRSTUVWXYZ[\\]^_`abcdefghijklmnopqrstuvwxyz{|}~" : Str).cps.toList, (S_tl _).symm, by decide +kernel, by decide +kernel, by decide +kernel⟩
theorem ok_allSigns {f : Addr} {fd : FuncData} (F : C8.Def K mg "_law_all_signs" s_allSigns f fd) (b : Binds K fd [] []) (T : Tx K w mg)  : C8.Cal P w K mg base 1 "_law_all_signs" sp_allSigns [] := by
  refine C8.cal0 F b .nil sc_allSigns (fun vs H Q E h => ?_) (fun cdv A outer s H vs Q E hr h => ?_)
  · obtain ⟨rfl, _⟩ := h; rfl
  have hu := hu_of hr
  refine ⟨_, (pss_one (ps_ret pe_str)), ?_⟩

  obtain ⟨rfl, q⟩ := h
  obtain ⟨l, e, h1, h2, h3⟩ := asl
  have z := q l h1 h2 h3
  rw [← e] at z
  exact z

end
end Vf

set_option maxRecDepth 100000
set_option maxHeartbeats 4000000
namespace Vf
open PySem PySem.Spec PyProof.Rows L2 SX
section
variable {P : Program} {w : World} {K : PySem.W.Frag} {mg : Str → Option Value} {base : Heap}
theorem pick_v {v : V} (h : v ∈ ([.str "all", .str "begins", .str "ends", .str "has", .str "is", .str "short", .str "number", .str "last"] : List V)) : ∃ k, v = .str k ∧ (isW k ∨ (k = "short" ∨ k = "number") ∨ k = "all" ∨ k = "last") := by
  simp only [List.mem_cons, List.not_mem_nil, or_false] at h
  unfold isW
  rcases h with rfl | rfl | rfl | rfl | rfl | rfl | rfl | rfl <;> exact ⟨_, rfl, by simp⟩
theorem ok_anyPlain {f : Addr} {fd : FuncData} (F : C8.Def K mg "_law_any_plain" s_anyPlain f fd) (b : Binds K fd ["_law_pen_here"] []) (T : Tx K w mg) (C_pick : C8.Cal P w K mg base 2 "_law_pick" sp_pick []) (C_anyWord : C8.Cal P w K mg base 4 "_law_any_word" sp_anyWord []) (C_draw : C8.Cal P w K mg base 1 "_law_draw" sp_draw []) : C8.Cal P w K mg base 5 "_law_any_plain" sp_anyPlain [] := by
  refine C8.cal0 F b .nil sc_anyPlain (fun vs H Q E h => ?_) (fun cdv A outer s H vs Q E hr h => ?_)
  · obtain ⟨p, c, m, rfl, _⟩ := h; rfl
  have hu := hu_of hr
  refine ⟨_, (pss_cons (ps_set (i := 1) sc_anyPlain.nd rfl (Or.inl rfl) (C8.pe_c C_pick hr (by decide) rfl (pa_cons (pv 0) (pa_cons (pe_lst (pa_cons pe_str (pa_cons pe_str (pa_cons pe_str (pa_cons pe_str (pa_cons pe_str (pa_cons pe_str (pa_cons pe_str (pa_cons pe_str pa_nil))))))))) pa_nil))))
      (pss_cons (ps_set (i := 2) sc_anyPlain.nd rfl (Or.inl rfl) pe_non)
      (C8.pss_cut (ps_if (pt_cmpR op_in_seq (pv 1) (pe_lst (pa_cons pe_str (pa_cons pe_str (pa_cons pe_str (pa_cons pe_str pa_nil))))) rfl)
      (pss_one (ps_set (i := 2) sc_anyPlain.nd rfl (Or.inl rfl) (C8.pe_c C_anyWord hr (by decide) rfl (pa_cons (pv 0) (pa_cons pe_int (pa_cons pe_int (pa_cons pe_bl pa_nil)))))))
      pss_nil)
      (C8.pss_cut (ps_if (pt_cmpR op_in_seq (pv 1) (pe_lst (pa_cons pe_str (pa_cons pe_str pa_nil))) rfl)
      (pss_one (ps_set (i := 2) sc_anyPlain.nd rfl (Or.inl rfl) (pe_ifExp (pt_cmpR op_eq (pv 1) pe_str (nomark _)) (C8.pe_c C_draw hr (by decide) rfl (pa_cons (pv 0) (pa_cons pe_int pa_nil))) (pe_op op_add pe_int (C8.pe_c C_draw hr (by decide) rfl (pa_cons (pv 0) (pa_cons pe_int pa_nil)))))))
      pss_nil)
      (pss_one (ps_ret (pe_tup (pa_cons (pv 1) (pa_cons (pv 2) (pa_cons pe_non (pa_cons pe_non (pa_cons pe_bl pa_nil)))))))))))), ?_⟩

  obtain ⟨p, c, m, rfl, hp, hm, q⟩ := h
  refine ⟨_, rfl, szB (by decide), fun Z hZ => ?_⟩
  refine ⟨p, c, m, _, rfl, hp.new hZ, by omega, .inr ⟨Z, _, rfl, upd_same, by decide, by decide, fun H1 v k1 k2 k3 => ?_⟩⟩
  obtain ⟨k, rfl, hk⟩ := pick_v k3
  have ks1 : Ks H H1 := (Ks.new1 hZ _).trans k1
  refine ⟨fun σ' H' => ∃ g, σ' = [some (.ref p), some (.str k), some g] ∧ PenAt H' p c (m + 16) ∧ Ks H H' ∧ ((isW k ∧ OkP (k, g)) ∨ ((k = "short" ∨ k = "number") ∧ g = .non) ∨ ((k = "all" ∨ k = "last") ∧ g = .non)), ?_, ?_⟩
  · refine ⟨_, rfl, szB (by decide), fun L hL => ?_⟩
    refine ⟨L, l4, rfl, .inl (SqL.of upd_same), rfl, by decide, _, rfl, ?_⟩
    have kL := ks1.new hL (.lst l4)
    have pL := k2.new (o := .lst l4) hL
    rcases hk with hk | hk | hk
    · rw [(cl_w hk).2.1]
      refine ify rfl ?_
      refine ⟨_, rfl, p, c, m + 1, 0, 6, true, rfl, pL, by omega, by decide, by decide, fun H2 t j1 j2 h1 h2 h3 => ?_⟩
      exact ⟨_, rfl, j2.mono (by omega), kL.trans j1, .inl ⟨hk, .wd hk h2 fun c hc => ⟨(h3 c hc).1, (h3 c hc).2 rfl⟩⟩⟩
    · rw [(cl_n hk).2.1]
      exact ifn rfl ⟨_, rfl, pL.mono (by omega), kL, .inr (.inl ⟨hk, rfl⟩)⟩
    · rw [(cl_b hk).2.1]
      exact ifn rfl ⟨_, rfl, pL.mono (by omega), kL, .inr (.inr ⟨hk, rfl⟩)⟩
  rintro σ' H2 ⟨g, rfl, p2, ks2, hk2⟩
  refine ⟨fun σ' H' => ∃ g, σ' = [some (.ref p), some (.str k), some g] ∧ PenAt H' p c (m + 18) ∧ Ks H H' ∧ OkP (k, g), ?_, ?_⟩
  · refine ⟨_, rfl, szB (by decide), fun L hL => ?_⟩
    refine ⟨L, l2, rfl, .inl (SqL.of upd_same), rfl, by decide, _, rfl, ?_⟩
    have kL := ks2.new hL (.lst l2)
    have pL := p2.new (o := .lst l2) hL
    rcases hk2 with ⟨hk, ok⟩ | ⟨hk, rfl⟩ | ⟨hk, rfl⟩
    · rw [(cl_w hk).2.2.1]
      exact ifn rfl ⟨_, rfl, pL.mono (by omega), kL, ok⟩
    · rw [(cl_n hk).2.2.1]
      refine ify rfl ?_
      rcases hk with rfl | rfl
      · refine ⟨_, rfl, rfl, _, rfl, ify (by decide) ?_⟩
        refine ⟨_, rfl, p, c, m + 16, 41, rfl, pL, by omega, by decide, by decide, fun H3 r j1 j2 hr3 => ?_⟩
        exact ⟨_, rfl, j2.mono (by omega), kL.trans j1, .sh (by omega)⟩
      · refine ⟨_, rfl, rfl, _, rfl, ifn (by decide) ?_⟩
        refine ⟨_, rfl, p, c, m + 16, 6, rfl, pL, by omega, by decide, by decide, fun H3 r j1 j2 hr3 => ?_⟩
        refine ⟨_, _, rfl, rfl, _, rfl, j2.mono (by omega), kL.trans j1, ?_⟩
        have e : (1 : Int) + (r : Int) = ((1 + r : Nat) : Int) := by omega
        show OkP ("number", .int ((1 : Int) + (r : Int)))
        rw [e]
        exact .nu (by omega) (by omega)
    · rw [(cl_b hk).2.2.1]
      exact ifn rfl ⟨_, rfl, pL.mono (by omega), kL, .ba hk⟩
  rintro σ' H3 ⟨g, rfl, p3, ks3, ok⟩
  refine ⟨_, rfl, _, rfl, szB (by show 5 ≤ 1000000; decide), fun a ha => ?_⟩
  exact q _ a (k, g) (ks3.new ha _) ((p3.new ha).mono (by omega)) ok upd_same

end
end Vf

set_option maxRecDepth 100000
set_option maxHeartbeats 4000000
namespace Vf
open PySem PySem.Spec PyProof.Rows L2 SX
section
variable {P : Program} {w : World} {K : PySem.W.Frag} {mg : Str → Option Value} {base : Heap}
theorem ok_anySign {f : Addr} {fd : FuncData} (F : C8.Def K mg "_law_any_sign" s_anySign f fd) (b : Binds K fd ["_law_pen_here", "_law_line"] []) (T : Tx K w mg) (C_draw : C8.Cal P w K mg base 1 "_law_draw" sp_draw []) (C_pick : C8.Cal P w K mg base 2 "_law_pick" sp_pick []) (C_allSigns : C8.Cal P w K mg base 1 "_law_all_signs" sp_allSigns []) : C8.Cal P w K mg base 3 "_law_any_sign" sp_anySign [] := by
  refine C8.cal0 F b .nil sc_anySign (fun vs H Q E h => ?_) (fun cdv A outer s H vs Q E hr h => ?_)
  · obtain ⟨p, c, m, b, rfl, _⟩ := h; rfl
  have hu := hu_of hr
  refine ⟨_, (pss_cons (ps_set (i := 2) sc_anySign.nd rfl (Or.inl rfl) (C8.pe_c C_draw hr (by decide) rfl (pa_cons (pv 0) (pa_cons pe_int pa_nil))))
      (pss_cons (ps_if (pt_cmpR op_lt (pv 2) pe_int (nomark _))
      (pss_one (ps_ret (pe_ifExp (pt_cmpR op_eq (pv 2) pe_int (nomark _)) pe_str pe_str)))
      pss_nil)
      (pss_cons (ps_if (PW.pt (pw_and (pt_cmpR op_eq (pv 2) pe_int (nomark _)) (pw_and1 (pt_not (pt_val (pv 1))))))
      (pss_one (ps_ret pe_str))
      pss_nil)
      (pss_one (ps_ret (C8.pe_c C_pick hr (by decide) rfl (pa_cons (pv 0) (pa_cons (pe_c0 C_allSigns hr (by decide) rfl) pa_nil)))))))), ?_⟩

  obtain ⟨p, c, m, b, rfl, hp, hm, q⟩ := h
  have one : ∀ (x : Str) (ch : Nat), x = S [ch] → ch ∈ signsL → (b = true → ch ≠ 10) → ∀ H', Ks H H' → PenAt H' p c (m + 1) → Q (.str x) H' := fun x ch e hs h10 H' k1 k2 => by
    rw [e]
    exact q H' ch k1 (k2.mono (by omega)) hs h10
  refine ⟨_, rfl, p, c, m, 8, rfl, hp, by omega, by decide, by decide, fun H1 r k1 k2 hr1 => ?_⟩
  refine ⟨_, rfl, _, _, rfl, rfl, _, rfl, ?_⟩
  refine ite2 (fun _ => ?_) (fun _ => ?_)
  · refine ⟨_, rfl, rfl, _, rfl, ?_⟩
    refine ite2 (fun _ => ?_) (fun _ => ?_)
    · exact one _ 34 rfl (by decide) (fun _ => by decide) H1 k1 k2
    · exact one _ 92 rfl (by decide) (fun _ => by decide) H1 k1 k2
  · refine ⟨_, rfl, rfl, _, rfl, ?_⟩
    refine ite2 (fun _ => ?_) (fun _ => ?_)
    · refine ⟨_, rfl, _, rfl, ?_⟩
      cases b with
      | false =>
        refine iteT ?_
        exact one _ 10 rfl (by decide) (fun z => nomatch z) H1 k1 k2
      | true =>
        refine iteF ?_
        refine ⟨_, rfl, rfl, fun l l1 l2 l3 => ?_⟩
        exact ⟨p, c, m + 1, _, rfl, k2, by omega, .inl ⟨l, rfl, l2, by omega, fun H2 ch j1 j2 j3 => q H2 ch (k1.trans j1) j2 (l1 ch j3).1 (fun _ => (l1 ch j3).2)⟩⟩
    · refine iteF ?_
      refine ⟨_, rfl, rfl, fun l l1 l2 l3 => ?_⟩
      exact ⟨p, c, m + 1, _, rfl, k2, by omega, .inl ⟨l, rfl, l2, by omega, fun H2 ch j1 j2 j3 => q H2 ch (k1.trans j1) j2 (l1 ch j3).1 (fun _ => (l1 ch j3).2)⟩⟩

end
end Vf

set_option maxRecDepth 100000
set_option maxHeartbeats 4000000
namespace Vf
open PySem PySem.Spec PyProof.Rows L2 SX
section
variable {P : Program} {w : World} {K : PySem.W.Frag} {mg : Str → Option Value} {base : Heap}
theorem ok_anyWord {f : Addr} {fd : FuncData} (F : C8.Def K mg "_law_any_word" s_anyWord f fd) (b : Binds K fd ["_law_pen_here", "_law_least", "_law_most", "_law_line"] []) (T : Tx K w mg) (C_draw : C8.Cal P w K mg base 1 "_law_draw" sp_draw []) (C_anySign : C8.Cal P w K mg base 3 "_law_any_sign" sp_anySign []) : C8.Cal P w K mg base 4 "_law_any_word" sp_anyWord [] := by
  refine C8.cal0 F b .nil sc_anyWord (fun vs H Q E h => ?_) (fun cdv A outer s H vs Q E hr h => ?_)
  · obtain ⟨p, c, m, l, u, b, rfl, _⟩ := h; rfl
  have hu := hu_of hr
  refine ⟨_, (pss_one (ps_ret (pe_join pe_str (pe_lc (own := [("_law_k", 4)]) (g := (gName 4)) (tt := tYes) rfl sc_anyWord.nd (pi_range1 (by rfl) T.z_range (pa_cons (pe_op op_add (pv 1) (C8.pe_c C_draw hr (by decide) rfl (pa_cons (pv 0) (pa_cons (pe_op op_add (pe_op op_sub (pv 2) (pv 1)) pe_int) pa_nil)))) pa_nil)) (blkOk_by (N := N_anyWord) (sc := C8.fnScope s_anyWord) (by decide +kernel)) (fun _ _ _ _ _ => pg_name (i := 4) sc_anyWord.nd rfl (Or.inl rfl)) (fun _ _ _ _ _ => pts_nil) (fun _ _ _ _ _ => (C8.pe_c C_anySign hr (by decide) rfl (pa_cons (pv 0) (pa_cons (pv 3) pa_nil)))))))), ?_⟩

  obtain ⟨p, c, m, l, u, bb, rfl, hp, hm, hlu, hu9, q⟩ := h
  refine ⟨⟨_, rfl⟩, _, rfl, _, rfl, _, rfl, _, rfl, _, _, rfl, rfl, _, _, rfl, rfl, p, c, m, u - l + 1, ?_, hp, by omega, by omega, by omega, fun H1 r k1 k2 hr1 => ?_⟩
  · show [V.ref p, V.int ((u : Int) - l + 1)] = [V.ref p, V.int ((u - l + 1 : Nat) : Int)]
    rw [show ((u : Int) - l + 1) = ((u - l + 1 : Nat) : Int) by omega]
  refine ⟨_, _, rfl, rfl, _, rfl, by omega, by omega, fun D hD => ?_⟩
  rw [show ((l : Int) + (r : Int)).toNat = l + r by omega]
  refine lc_pen (m0 := m + 1) (s := 2) (k := 4) (fun v _ => Ones (fun c => c ∈ signsL ∧ (bb = true → c ≠ 10)) v) (fun _ _ _ _ h => h) (by show 4 < 5; decide) hD k2 (by omega) (fun i H2 m2 Q2 hi hp2 hm2 hq => ?_) (fun H2 xs e1 e2 e3 e4 e5 => ?_)
  · exact ⟨_, rfl, _, rfl, p, c, m2, bb, rfl, hp2, by omega, fun H3 ch j1 j2 j3 j4 => hq H3 _ j1 j2 ⟨ch, rfl, j3, j4⟩⟩
  · obtain ⟨t, rfl, ht⟩ := ones_of e2
    have et : t.length = l + r := by rw [← e1, List.length_map, List.length_map]
    refine ⟨S [], D, t.map fun c => S [c], rfl, rfl, .inl (SqL.of e3), ones_bound (by omega), ?_⟩
    rw [join_ones]
    exact q H2 t (k1.trans e4) (e5.mono (by omega)) (by omega) (by omega) ht

end
end Vf

set_option maxRecDepth 100000
set_option maxHeartbeats 4000000
namespace Vf
open PySem PySem.Spec PyProof.Rows L2 SX
section
variable {P : Program} {w : World} {K : PySem.W.Frag} {mg : Str → Option Value} {base : Heap}
theorem num0 {r : Nat} (h : r < 5) : ∃ n : Nat, ([.int 0, .int 7, .int 8, .int 60, .int 999999999] : List V)[r]? = some (.int (n : Int)) ∧ n < 1000000000 ∧ ((n : Int) < 1 ∨ 6 < (n : Int)) := by
  match r, h with
  | 0, _ => exact ⟨0, rfl, by decide, by decide⟩
  | 1, _ => exact ⟨7, rfl, by decide, by decide⟩
  | 2, _ => exact ⟨8, rfl, by decide, by decide⟩
  | 3, _ => exact ⟨60, rfl, by decide, by decide⟩
  | 4, _ => exact ⟨999999999, rfl, by decide, by decide⟩
theorem num1 {r : Nat} (h : r < 4) : ∃ n : Nat, ([.int 41, .int 42, .int 400, .int 999999999] : List V)[r]? = some (.int (n : Int)) ∧ n < 1000000000 ∧ ((n : Int) < 0 ∨ 40 < (n : Int)) := by
  match r, h with
  | 0, _ => exact ⟨41, rfl, by decide, by decide⟩
  | 1, _ => exact ⟨42, rfl, by decide, by decide⟩
  | 2, _ => exact ⟨400, rfl, by decide, by decide⟩
  | 3, _ => exact ⟨999999999, rfl, by decide, by decide⟩
theorem pick_w {v : V} (h : v ∈ ([.str "begins", .str "ends", .str "has", .str "is"] : List V)) : ∃ k, v = .str k ∧ isW k := by
  simp only [List.mem_cons, List.not_mem_nil, or_false] at h
  unfold isW
  rcases h with rfl | rfl | rfl | rfl <;> exact ⟨_, rfl, by simp⟩
theorem lw_long {t : List Nat} (h : 6 < t.length) : lw t = false := by
  unfold lw
  rw [decide_eq_false (show ¬ t.length ≤ 6 by omega)]
  simp
theorem lw_nl {t : List Nat} (h : 10 ∈ t) : lw t = false := by
  unfold lw
  rw [decide_eq_true h]
  simp
theorem ok_beyond {f : Addr} {fd : FuncData} (F : C8.Def K mg "_law_beyond" s_beyond f fd) (b : Binds K fd ["_law_pen_here", "_law_check"] []) (T : Tx K w mg) (C_draw : C8.Cal P w K mg base 1 "_law_draw" sp_draw []) (C_pick : C8.Cal P w K mg base 2 "_law_pick" sp_pick []) (C_anyWord : C8.Cal P w K mg base 4 "_law_any_word" sp_anyWord []) : C8.Cal P w K mg base 5 "_law_beyond" sp_beyond [] := by
  refine C8.cal0 F b .nil sc_beyond (fun vs H Q E h => ?_) (fun cdv A outer s H vs Q E hr h => ?_)
  · obtain ⟨p, c, m, ck, rfl, _⟩ := h; rfl
  have hu := hu_of hr
  refine ⟨_, (pss_cons (ps_set (i := 2) sc_beyond.nd rfl (Or.inl rfl) (C8.pe_c C_draw hr (by decide) rfl (pa_cons (pv 0) (pa_cons pe_int pa_nil))))
      (pss_cons (ps_if (pt_cmpR op_eq (pv 2) pe_int (nomark _))
      (pss_cons (ps_set (i := 3) sc_beyond.nd rfl (Or.inl rfl) (pe_ix ix_list (pe_lst (pa_cons pe_int (pa_cons pe_int (pa_cons pe_int (pa_cons pe_int (pa_cons pe_int pa_nil)))))) (C8.pe_c C_draw hr (by decide) rfl (pa_cons (pv 0) (pa_cons pe_int pa_nil))) (fun _ _ => rfl)))
      (pss_one (ps_ret (pe_tup (pa_cons (pe_tup (pa_cons pe_str (pa_cons (pv 3) (pa_cons pe_non (pa_cons pe_non (pa_cons pe_bl pa_nil)))))) (pa_cons (pe_tup (pa_cons pe_str (pa_cons pe_str (pa_cons (pv 3) pa_nil)))) pa_nil))))))
      pss_nil)
      (pss_cons (ps_if (pt_cmpR op_eq (pv 2) pe_int (nomark _))
      (pss_cons (ps_set (i := 3) sc_beyond.nd rfl (Or.inl rfl) (pe_ix ix_list (pe_lst (pa_cons pe_int (pa_cons pe_int (pa_cons pe_int (pa_cons pe_int pa_nil))))) (C8.pe_c C_draw hr (by decide) rfl (pa_cons (pv 0) (pa_cons pe_int pa_nil))) (fun _ _ => rfl)))
      (pss_one (ps_ret (pe_tup (pa_cons (pe_tup (pa_cons pe_str (pa_cons (pv 3) (pa_cons pe_non (pa_cons pe_non (pa_cons pe_bl pa_nil)))))) (pa_cons (pe_tup (pa_cons pe_str (pa_cons pe_str (pa_cons (pv 3) pa_nil)))) pa_nil))))))
      pss_nil)
      (pss_cons (ps_set (i := 4) sc_beyond.nd rfl (Or.inl rfl) (C8.pe_c C_pick hr (by decide) rfl (pa_cons (pv 0) (pa_cons (pe_lst (pa_cons pe_str (pa_cons pe_str (pa_cons pe_str (pa_cons pe_str pa_nil))))) pa_nil))))
      (C8.pss_cut (ps_set (i := 5) sc_beyond.nd rfl (Or.inl rfl) (pe_ifExp (pt_cmpR op_eq (pv 2) pe_int (nomark _)) (C8.pe_c C_anyWord hr (by decide) rfl (pa_cons (pv 0) (pa_cons pe_int (pa_cons pe_int (pa_cons pe_bl pa_nil))))) (pe_op op_add_str (C8.pe_c C_anyWord hr (by decide) rfl (pa_cons (pv 0) (pa_cons pe_int (pa_cons pe_int (pa_cons pe_bl pa_nil))))) pe_str)))
      (pss_one (ps_ret (pe_tup (pa_cons (pe_tup (pa_cons (pv 4) (pa_cons (pv 5) (pa_cons pe_non (pa_cons pe_non (pa_cons pe_bl pa_nil)))))) (pa_cons (pe_tup (pa_cons pe_str (pa_cons pe_str pa_nil))) pa_nil)))))))))), ?_⟩

  obtain ⟨p, c, m, ck, rfl, hp, hm, q⟩ := h
  refine ⟨_, rfl, p, c, m, 4, rfl, hp, by omega, by decide, by decide, fun H1 r k1 p1 hr1 => ?_⟩
  refine ⟨_, rfl, rfl, _, rfl, ite2 (fun _ => ?_) (fun _ => ?_)⟩
  · refine ⟨szB (by show 5 ≤ 1000000; decide), fun L hL => ⟨_, rfl, p, c, m + 1, 5, rfl, p1.new hL, by omega, by decide, by decide, fun H2 r2 k2 p2 hr2 => ?_⟩⟩
    obtain ⟨n, e1, e2, e3⟩ := num0 hr2
    refine ⟨L, _, _, _, rfl, rfl, SqL.of (k2.lst upd_same), atI_nat e1, ?_⟩
    refine ⟨_, rfl, szB (by show 5 ≤ 1000000; decide), fun a ha => ?_⟩
    refine ⟨_, rfl, sz_3, fun d hd => ⟨sz_2, fun e he => ?_⟩⟩
    have ks := ((((k1.new hL _).trans k2).new ha (.tup (cT ("number", .int (n : Int)) .non .non false))).new hd (.tup [.str "number", .str "number", .int (n : Int)])).new he (.tup [.ref a, .ref d])
    have sa := same_new (same_new (Same.refl (upd H2 a (.tup (cT ("number", .int (n : Int)) .non .non false)))) hd (.tup [.str "number", .str "number", .int (n : Int)])) he (.tup [.ref a, .ref d])
    have sd := same_new (Same.refl (upd (upd H2 a (.tup (cT ("number", .int (n : Int)) .non .non false))) d (.tup [.str "number", .str "number", .int (n : Int)]))) he (.tup [.ref a, .ref d])
    exact q _ e a d ("number", .int (n : Int)) (.num "number" (.int (n : Int))) ks ((((p2.new ha).new hd).new he).mono (by omega)) (.nu (.inr ⟨rfl, rfl, rfl⟩) e2 e3) upd_same (sa _ _ upd_same) (sd _ _ upd_same)
  refine ⟨_, rfl, rfl, _, rfl, ite2 (fun _ => ?_) (fun _ => ?_)⟩
  · refine ⟨szB (by show 4 ≤ 1000000; decide), fun L hL => ⟨_, rfl, p, c, m + 1, 4, rfl, p1.new hL, by omega, by decide, by decide, fun H2 r2 k2 p2 hr2 => ?_⟩⟩
    obtain ⟨n, e1, e2, e3⟩ := num1 hr2
    refine ⟨L, _, _, _, rfl, rfl, SqL.of (k2.lst upd_same), atI_nat e1, ?_⟩
    refine ⟨_, rfl, szB (by show 5 ≤ 1000000; decide), fun a ha => ?_⟩
    refine ⟨_, rfl, sz_3, fun d hd => ⟨sz_2, fun e he => ?_⟩⟩
    have ks := ((((k1.new hL _).trans k2).new ha (.tup (cT ("short", .int (n : Int)) .non .non false))).new hd (.tup [.str "number", .str "short", .int (n : Int)])).new he (.tup [.ref a, .ref d])
    have sa := same_new (same_new (Same.refl (upd H2 a (.tup (cT ("short", .int (n : Int)) .non .non false)))) hd (.tup [.str "number", .str "short", .int (n : Int)])) he (.tup [.ref a, .ref d])
    have sd := same_new (Same.refl (upd (upd H2 a (.tup (cT ("short", .int (n : Int)) .non .non false))) d (.tup [.str "number", .str "short", .int (n : Int)]))) he (.tup [.ref a, .ref d])
    exact q _ e a d ("short", .int (n : Int)) (.num "short" (.int (n : Int))) ks ((((p2.new ha).new hd).new he).mono (by omega)) (.nu (.inl ⟨rfl, rfl, rfl⟩) e2 e3) upd_same (sa _ _ upd_same) (sd _ _ upd_same)
  refine ⟨_, rfl, szB (by decide), fun Z hZ => ⟨p, c, m + 1, _, rfl, p1.new hZ, by omega, .inr ⟨Z, _, rfl, upd_same, by decide, by decide, fun H2 v k2 p2 hv => ?_⟩⟩⟩
  obtain ⟨k, rfl, hk⟩ := pick_w hv
  have ks2 := (k1.new hZ _).trans k2
  refine ⟨fun σ' H' => ∃ (x3 : Option V) (u : List Nat), σ' = [some (.ref p), some ck, some (.int ((r : Nat) : Int)), x3, some (.str k), some (.str (S u))] ∧ PenAt H' p c (m + 30) ∧ Ks H H' ∧ u.length ≤ 12 ∧ (∀ c ∈ u, c ∈ signsL) ∧ lw u = false, ?_, ?_⟩
  · refine ⟨_, rfl, rfl, _, rfl, ite2 (fun _ => ?_) (fun _ => ?_)⟩
    · refine ⟨_, rfl, p, c, m + 2, 7, 9, true, rfl, p2, by omega, by decide, by decide, fun H3 u k3 p3 h1 h2 h3 => ?_⟩
      exact ⟨_, u, rfl, p3.mono (by omega), ks2.trans k3, by omega, fun c hc => (h3 c hc).1, lw_long (by omega)⟩
    · refine ⟨_, rfl, p, c, m + 2, 0, 3, true, rfl, p2, by omega, by decide, by decide, fun H3 u k3 p3 h1 h2 h3 => ?_⟩
      have hn : ("\n" : Str) = S [10] := by decide +kernel
      refine ⟨_, _, rfl, rfl, by rw [hn, S_len, S_len]; exact szB (by show _ + 1 ≤ 1000000; omega), ?_⟩
      rw [hn, S_cat]
      refine ⟨_, u ++ [10], rfl, p3.mono (by omega), ks2.trans k3, by rw [List.length_append]; show _ + 1 ≤ _; omega, fun c hc => ?_, lw_nl (List.mem_append_right _ (List.mem_singleton.mpr rfl))⟩
      rcases List.mem_append.mp hc with z | z
      · exact (h3 c z).1
      · rw [List.mem_singleton.mp z]
        decide
  rintro σ' H3 ⟨x3, u, rfl, p3, ks3, h1, h2, h3⟩
  refine ⟨_, rfl, _, rfl, szB (by show 5 ≤ 1000000; decide), fun a ha => ?_⟩
  refine ⟨sz_2, fun d hd => ⟨sz_2, fun e he => ?_⟩⟩
  have ks := ((ks3.new ha (.tup (cT (k, .str (S u)) .non .non false))).new hd (.tup [.str "word", .str "argument"])).new he (.tup [.ref a, .ref d])
  have sa := same_new (same_new (Same.refl (upd H3 a (.tup (cT (k, .str (S u)) .non .non false)))) hd (.tup [.str "word", .str "argument"])) he (.tup [.ref a, .ref d])
  have sd := same_new (Same.refl (upd (upd H3 a (.tup (cT (k, .str (S u)) .non .non false))) d (.tup [.str "word", .str "argument"]))) he (.tup [.ref a, .ref d])
  exact q _ e a d (k, .str (S u)) (.word "argument") ks ((((p3.new ha).new hd).new he).mono (by omega)) (.wd hk h1 h2 h3) upd_same (sa _ _ upd_same) (sd _ _ upd_same)

end
end Vf

set_option maxRecDepth 100000
set_option maxHeartbeats 4000000
namespace Vf
open PySem PySem.Spec PyProof.Rows L2 SX
section
variable {P : Program} {w : World} {K : PySem.W.Frag} {mg : Str → Option Value} {base : Heap}
theorem ok_WordReader_chosen {f : Addr} {fd : FuncData} {q : Str} {CR CT : Addr} (A0 : CaR K CR) (me : Meth K CR "chosen" f) (F : C8.Fun K "chosen" q s_WordReader_chosen f fd) (b : Binds K fd ["self", "words"] []) (T : Tx K w mg)
    (C_WordReader_coming : C8.Met P w K mg base 1 CR "coming" (sp_WordReader_coming CR) []) (C_WordReader_refuse : MetX P w K mg base 3 CR "refuse" (sp_WordReader_refuse CR CT)) :
    MetX P w K mg base 4 CR "chosen" (sp_WordReader_chosen K CR CT) := by
  refine metX A0.i.cl me F b sc_WordReader_chosen (fun vs H Q E h => ?_) (fun cdv A outer s H vs Q E hr h => ?_)
  · obtain ⟨r, ta, dn, rs, e, xs, rfl, _⟩ := h; rfl
  have hu := hu_of hr
  refine ⟨_, (pss_cons (ps_set (i := 2) sc_WordReader_chosen.nd rfl (Or.inl rfl) (C8.pe_mt0 C_WordReader_coming hr (by decide) (pv 0)))
      (C8.pss_cut (ps_if (pt_cmpR op_notIn_seq (pv 2) (pv 1) rfl)
      (pss_one (ps_expr (pe_mx C_WordReader_refuse hr (by decide) (takes_of rfl rfl rfl rfl) (pv 0) (pa_cons pe_str pa_nil))))
      pss_nil)
      (pss_cons (ps_fldaug (pv 0) pe_int in_add)
      (pss_one (ps_ret (pv 2)))))), ?_⟩
  obtain ⟨r, ta, dn, rs, e, xs, rfl, rd, tg, hta, hxs, h⟩ := h
  have cl := A0.i.cl
  obtain ⟨s0, hs0⟩ := cm_str tg
  obtain ⟨dx, wt, as, h1, h2, h3, h4⟩ := id rd
  have fx : xs.all flatV = true := List.all_eq_true.mpr fun x hx => by
    obtain ⟨s, rfl⟩ := hxs x hx
    rfl
  refine ⟨_, rfl, r, dx, _, rfl, h1, rfl, r, dn, rs, e, rfl, rd, tg, fun H1 s1 => ?_⟩
  rw [hs0]
  refine ⟨fun σ' H' => ∃ k c rs', rs = tk3 "name" (.str k) c :: rs' ∧ σ' = [some (.ref r), some (.ref ta), some (.str k)] ∧ H' = H1 ∧ ∀ H', SmX r H H' → RdAt CR H' r (dn ++ [tk3 "name" (.str k) c]) rs' e → Q (.str k) H', ?_, ?_⟩
  · refine ⟨_, rfl, _, rfl, ta, xs, rfl, .inr (SqT.of (s1 _ _ hta)), rfl, fx, _, rfl, ?_⟩
    rcases h with ⟨k, c, rs', rfl, hi, q⟩ | ⟨hi, er⟩
    · rw [cm_nm] at hs0
      obtain rfl := V.str.inj hs0
      refine ifn (by rw [hi]; rfl) ?_
      exact ⟨k, c, rs', rfl, rfl, rfl, q⟩
    · rw [hs0] at hi
      refine ify (by rw [hi]; rfl) ?_
      exact ⟨_, rfl, r, dx, _, rfl, s1 _ _ h1, rfl, r, dn, rs, e, "name", rfl, .inl rfl, rd.sm s1, tg, er.go (SmX.of s1)⟩
  rintro σ' H' ⟨k, c, rs', rfl, rfl, rfl, q⟩
  obtain ⟨dx', wt', g1, g2, g3⟩ := rd.step' s1
  exact ⟨_, rfl, r, CR, dx', _, _, rfl, g1, cl, A0.a4, rfl, _, _, rfl, rfl, dx', _, g1, (by decide : (4 : Nat) < 1000), _, rfl, q _ g3 g2⟩

end
end Vf

set_option maxRecDepth 100000
set_option maxHeartbeats 4000000
namespace Vf
open PySem PySem.Spec PyProof.Rows L2 SX
section
variable {P : Program} {w : World} {K : PySem.W.Frag} {mg : Str → Option Value} {base : Heap}
theorem ok_draw {f : Addr} {fd : FuncData} (F : C8.Def K mg "_law_draw" s_draw f fd) (b : Binds K fd ["_law_pen_here", "_law_many"] []) (T : Tx K w mg)  : C8.Cal P w K mg base 1 "_law_draw" sp_draw [] := by
  refine C8.cal0 F b .nil sc_draw (fun vs H Q E h => ?_) (fun cdv A outer s H vs Q E hr h => ?_)
  · obtain ⟨p, c, m, n, rfl, _⟩ := h; rfl
  have hu := hu_of hr
  refine ⟨_, (pss_cons (ps_dput hu (pv 0) pe_str (pe_op op_add (pe_dget hu (pv 0) pe_str (fun _ _ => rfl)) pe_int) rfl)
      (C8.pss_cut (ps_if (PW.pt (pw_and (pt_cmpR op_eq (pe_dget hu (pv 0) pe_str (fun _ _ => rfl)) pe_int (nomark _)) (pw_and1 (pt_cmpR op_lt (pe_dget hu (pv 0) pe_str (fun _ _ => rfl)) (pe_callB call_len (by rfl) T.z_len PySem.boot_len (pa_cons (pe_dget hu (pv 0) pe_str (fun _ _ => rfl)) pa_nil)) (nomark _)))))
      (pss_cons (ps_set (i := 2) sc_draw.nd rfl (Or.inl rfl) (pe_ix ix_list (pe_dget hu (pv 0) pe_str (fun _ _ => rfl)) (pe_dget hu (pv 0) pe_str (fun _ _ => rfl)) (fun _ _ => rfl)))
      (pss_cons (ps_dput hu (pv 0) pe_str (pe_op op_add (pe_dget hu (pv 0) pe_str (fun _ _ => rfl)) pe_int) rfl)
      (pss_one (ps_if (pt_cmpR op_ge (pv 2) (pe_op op_pow pe_int pe_int) (nomark _))
      (pss_one (ps_dput hu (pv 0) pe_str (pe_op op_sub (pv 2) (pe_op op_pow pe_int pe_int)) rfl))
      (pss_one (ps_dput hu (pv 0) pe_str (pe_op op_mod (pe_callTy call_int1 (by rfl) T.z_int (by decide +kernel) (pa_cons (pe_op op_add (pe_op op_mul (pe_dget hu (pv 0) pe_str (fun _ _ => rfl)) pe_int) (pv 2)) pa_nil)) pe_int) rfl))))))
      pss_nil)
      (pss_cons (ps_if (pt_cmpR op_gt (pe_dget hu (pv 0) pe_str (fun _ _ => rfl)) pe_int (nomark _))
      (pss_cons (ps_set (i := 3) sc_draw.nd rfl (Or.inl rfl) (pe_op op_mod (pe_callTy call_int1 (by rfl) T.z_int (by decide +kernel) (pa_cons (pe_dget hu (pv 0) pe_str (fun _ _ => rfl)) pa_nil)) (pv 1)))
      (pss_cons (ps_dput hu (pv 0) pe_str (pe_op op_fdiv (pe_dget hu (pv 0) pe_str (fun _ _ => rfl)) (pv 1)) rfl)
      (pss_one (ps_ret (pv 3)))))
      pss_nil)
      (pss_cons (ps_set (i := 4) sc_draw.nd rfl (Or.inl rfl) (pe_op op_add (pe_op op_add (pe_dget hu (pv 0) pe_str (fun _ _ => rfl)) (pe_op op_mul (pe_dget hu (pv 0) pe_str (fun _ _ => rfl)) pe_int)) pe_int))
      (pss_one (ps_ret (pe_op op_mod (pe_op op_fdiv (pe_callTy call_int1 (by rfl) T.z_int (by decide +kernel) (pa_cons (pe_op op_mod (pe_op op_pow (pv 4) pe_int) pe_int) pa_nil)) pe_int) (pv 1)))))))), ?_⟩

  obtain ⟨p, c, m, n, rfl, ⟨ns, a, d, t, fo, hp, hc, hl, ha, hd, ht, htm, hf0, hf1⟩, hm, hn1, hn2, q⟩ := h
  have hpc : c ≠ p := ne_of hc hp (by intro z; cases z)
  have nx : ∀ o, (upd H p o) c = some (.lst (ns.map V.int)) := fun o => by rw [upd_ne hpc]; exact hc
  have lns : (ns.map V.int).length = ns.length := List.length_map _
  -- count
  refine ⟨_, rfl, p, _, rfl, pg_count hp, _, _, rfl, rfl, _, rfl, p, _, rfl, pp_count hp, ?_⟩
  have h1 : (upd H p (.dK (pk c a d (t + 1) fo))) p = some (.dK (pk c a d (t + 1) fo)) := upd_same
  -- the cell
  refine ⟨fun σ' H' => ∃ (v2 : Option V) (a' d' f' : Int), σ' = [some (.ref p), some (.int (n : Int)), v2, none, none] ∧ H' = upd H p (.dK (pk c a' d' (t + 1) f')) ∧ 0 ≤ a' ∧ 0 ≤ d' ∧ 0 ≤ f' ∧ f' < 2147483648, ?_, ?_⟩
  · refine ⟨_, rfl, p, _, rfl, pg_digits h1, rfl, _, rfl, ?_⟩
    refine ite2 (fun e0 => ?_) (fun _ => ?_)
    · refine ⟨_, rfl, p, _, rfl, pg_at h1, _, rfl, p, _, rfl, pg_cells h1, _, _, rfl, .inl ⟨_, SqL.of (nx _), rfl⟩, _, _, rfl, rfl, _, rfl, ?_⟩
      refine ite2 (fun e1 => ?_) (fun _ => ?_)
      · have e1' : a < (((ns.map V.int).length : Nat) : Int) := of_decide_eq_true e1
        rw [lns] at e1'
        have hk : a.toNat < ns.length := by omega
        have ek : a = ((a.toNat : Nat) : Int) := by omega
        have g : (ns.map V.int)[a.toNat]? = some (.int ns[a.toNat]) := by
          rw [List.getElem?_map, List.getElem?_eq_getElem hk]; rfl
        refine ⟨_, rfl, p, _, rfl, pg_cells h1, _, rfl, p, _, rfl, pg_at h1, c, _, a, _, rfl, rfl, SqL.of (nx _), at_of ek g, ?_⟩
        refine ⟨_, rfl, p, _, rfl, pg_at h1, _, _, rfl, rfl, _, rfl, p, _, rfl, pp_at h1, ?_⟩
        rw [upd_upd]
        have h2 : (upd H p (.dK (pk c (a + 1) d (t + 1) fo))) p = some (.dK (pk c (a + 1) d (t + 1) fo)) := upd_same
        refine ⟨_, rfl, _, _, rfl, rfl, ⟨by decide, by decide, by decide⟩, _, _, rfl, rfl, _, rfl, ?_⟩
        refine ite2 (fun e2 => ?_) (fun _ => ?_)
        · have e2' : (10 : Int) ^ (18 : Int).toNat ≤ ns[a.toNat] := of_decide_eq_true e2
          refine ⟨_, rfl, _, _, rfl, rfl, ⟨by decide, by decide, by decide⟩, _, _, rfl, rfl, _, rfl, p, _, rfl, pp_digits h2, ?_⟩
          rw [upd_upd]
          exact ⟨_, _, _, _, rfl, rfl, by omega, by omega, hf0, hf1⟩
        · refine ⟨_, rfl, p, _, rfl, pg_fold h2, _, _, rfl, rfl, .inl ⟨by omega, by omega⟩, _, rfl, _, _, rfl, rfl, .inl ⟨_, rfl, _, _, rfl, rfl, (by decide : (0 : Int) < 2147483587), _, rfl, p, _, rfl, pp_fold h2, ?_⟩⟩
          rw [upd_upd]
          exact ⟨_, _, _, _, rfl, rfl, by omega, hd, Int.emod_nonneg _ (by decide), Int.lt_trans (Int.emod_lt_of_pos _ (by decide)) (by decide)⟩
      · exact ⟨_, _, _, _, rfl, rfl, ha, hd, hf0, hf1⟩
    · exact ⟨_, _, _, _, rfl, rfl, ha, hd, hf0, hf1⟩
  · rintro σ' H' ⟨v2, a', d', f', rfl, rfl, ha', hd', hf', hf2⟩
    have h2 : (upd H p (.dK (pk c a' d' (t + 1) f'))) p = some (.dK (pk c a' d' (t + 1) f')) := upd_same
    have fin : ∀ (d2 : Int) (r : Nat), 0 ≤ d2 → r < n → Q (.int (r : Int)) (upd H p (.dK (pk c a' d2 (t + 1) f'))) := fun d2 r h0 hr' =>
      q _ r (Ks.dict hp) ⟨ns, _, _, _, _, upd_same, nx _, hl, ha', h0, by omega, by omega, hf', hf2⟩ hr'
    refine ⟨_, rfl, p, _, rfl, pg_digits h2, _, _, rfl, rfl, _, rfl, ?_⟩
    refine ite2 (fun e0 => ?_) (fun _ => ?_)
    · refine ⟨_, rfl, p, _, rfl, pg_digits h2, .inl ⟨_, rfl, _, rfl, _, _, rfl, rfl, (by omega : (0 : Int) < (n : Int)), ?_⟩⟩
      refine ⟨_, rfl, p, _, rfl, pg_digits h2, _, rfl, _, _, rfl, rfl, ⟨by omega, by omega⟩, _, rfl, p, _, rfl, pp_digits h2, ?_⟩
      rw [upd_upd]
      refine ⟨_, rfl, ?_⟩
      have e1 : d' % (n : Int) = (((d' % (n : Int)).toNat : Nat) : Int) := by
        have := Int.emod_nonneg d' (show (n : Int) ≠ 0 by omega)
        omega
      have e2 : (d' % (n : Int)).toNat < n := by
        have := Int.emod_lt_of_pos d' (show (0 : Int) < n by omega)
        have := Int.emod_nonneg d' (show (n : Int) ≠ 0 by omega)
        omega
      show Q (.int (d' % (n : Int))) _
      rw [e1]
      exact fin _ _ (Int.ediv_nonneg hd' (by omega)) e2
    · refine ⟨_, rfl, p, _, rfl, pg_fold h2, _, rfl, p, _, rfl, pg_count h2, _, _, rfl, rfl, .inr ⟨by decide, by decide⟩, _, _, rfl, rfl, _, _, rfl, rfl, ?_⟩
      refine ⟨_, rfl, _, _, rfl, rfl, ⟨by decide, by decide, ?_⟩, _, _, rfl, rfl, (by decide : (0 : Int) < 2305843009213693951), .inl ⟨_, rfl, _, _, rfl, rfl, ⟨by decide, by decide⟩, _, rfl, _, _, rfl, rfl, (by omega : (0 : Int) < (n : Int)), ?_⟩⟩
      · show (f' + (t + 1) * 7907 + 37).natAbs < 2 ^ 64
        have : (2 : Nat) ^ 64 = 18446744073709551616 := by decide
        omega
      generalize (f' + (t + 1) * 7907 + 37) ^ (17 : Int).toNat % 2305843009213693951 / 128 = z
      have e1 : z % (n : Int) = (((z % (n : Int)).toNat : Nat) : Int) := by
        have := Int.emod_nonneg z (show (n : Int) ≠ 0 by omega)
        omega
      have e2 : (z % (n : Int)).toNat < n := by
        have := Int.emod_lt_of_pos z (show (0 : Int) < n by omega)
        have := Int.emod_nonneg z (show (n : Int) ≠ 0 by omega)
        omega
      show Q (.int (z % (n : Int))) _
      rw [e1]
      exact fin _ _ hd' e2

end
end Vf

set_option maxRecDepth 100000
set_option maxHeartbeats 4000000
namespace Vf
open PySem PySem.Spec PyProof.Rows L2 SX
section
variable {P : Program} {w : World} {K : PySem.W.Frag} {mg : Str → Option Value} {base : Heap}
theorem ok_init {f : Addr} {fd : FuncData} {q : Str} {CL : Addr} (A0 : Ca K CL) (M : Mk K CL f) (g : mg "LineTest" = some (.ref CL)) (F : C8.Fun K "__init__" q s_LineTest_init f fd) (b : Binds K fd ["self", "word", "argument", "parts", "negated"] []) :
    C8.Mak P w K mg base 1 "LineTest" CL (sp_LineTest_init CL) [] := by
  refine C8.mak0 M g F b .nil sc_LineTest_init (fun vs H Q E h => ?_) (fun cdv A outer s H vs Q E hr h => ?_)
  · obtain ⟨a, dx, pa, k, g, x, y, n, rfl, _⟩ := h; rfl
  refine ⟨_, (pss_cons (ps_fld (pv 0) (pv 1) rfl)
      (pss_cons (ps_fld (pv 0) (pv 2) rfl)
      (pss_cons (ps_fld (pv 0) (pe_ix ix_tup (pv 3) pe_int (fun _ _ => rfl)) rfl)
      (pss_cons (ps_fld (pv 0) (pe_ix ix_tup (pv 3) pe_int (fun _ _ => rfl)) rfl)
      (pss_one (ps_fld (pv 0) (pv 4) rfl)))))), ?_⟩
  obtain ⟨a, dx, pa, k, g, x, y, n, rfl, ha, hp, q⟩ := h
  have ne : pa ≠ a := ne_of hp ha (fun z => nomatch z)
  have cl := A0.i.cl
  refine ⟨_, rfl, _, rfl, a, CL, dx, [], rfl, ha, cl, A0.a1, by decide, ?_⟩
  refine ⟨_, rfl, _, rfl, a, CL, dx, _, rfl, upd_same, cl, A0.a2, (by decide : (1 : Nat) < 1000), ?_⟩
  refine ⟨_, rfl, pa, [x, y], 0, _, rfl, rfl, SqT.of (by rw [upd_ne ne, upd_ne ne]; exact hp), rfl, _, rfl, a, CL, dx, _, rfl, upd_same, cl, A0.a3, (by decide : (2 : Nat) < 1000), ?_⟩
  refine ⟨_, rfl, pa, [x, y], 1, _, rfl, rfl, SqT.of (by rw [upd_ne ne, upd_ne ne, upd_ne ne]; exact hp), rfl, _, rfl, a, CL, dx, _, rfl, upd_same, cl, A0.a4, (by decide : (3 : Nat) < 1000), ?_⟩
  refine ⟨_, rfl, _, rfl, a, CL, dx, _, rfl, upd_same, cl, A0.a5, (by decide : (4 : Nat) < 1000), ?_⟩
  show Q .non _
  rw [upd_upd, upd_upd, upd_upd, upd_upd]
  exact q

end
end Vf

set_option maxRecDepth 100000
set_option maxHeartbeats 4000000
namespace Vf
open PySem PySem.Spec PyProof.Rows L2 SX
section
variable {P : Program} {w : World} {K : PySem.W.Frag} {mg : Str → Option Value} {base : Heap}
theorem ok_isText {f : Addr} {fd : FuncData} (F : C8.Def K mg "is_text" s_isText f fd) (b : Binds K fd ["value"] []) (T : Tx K w mg)  : C8.Cal P w K mg base 1 "is_text" (sp_isText K) [] := by
  refine C8.cal0 F b .nil sc_isText (fun vs H Q E h => ?_) (fun cdv A outer s H vs Q E hr h => ?_)
  · obtain ⟨x, rfl, _⟩ := h; rfl
  have hu := hu_of hr
  refine ⟨_, (pss_one (ps_ret (pe_and (pe_callB call_isi (by rfl) T.z_isinstance (by decide +kernel) (pa_cons (pv 0) (pa_cons (pe_bltn (v := .ty "str") (by rfl) T.z_str (by decide +kernel) rfl) pa_nil))) (pe_one (pe_callB (cr_all rfl) (by rfl) T.z_all (by decide +kernel) (pa_cons (pe_lc (own := [("sign", 1)]) (g := (gName 1)) (tt := tYes) rfl sc_isText.nd (pi_str (pv 0)) (blkOk_by (N := N_isText) (sc := C8.fnScope s_isText) (by decide +kernel)) (fun _ _ _ _ _ => pg_name (i := 1) sc_isText.nd rfl (Or.inl rfl)) (fun _ _ _ _ _ => pts_nil) (fun _ _ _ _ _ => (pe_cmpR op_in_sign (pv 1) (C8.pe_gc rfl T.g_SIGNS) rfl))) pa_nil)))))), ?_⟩

  obtain ⟨x, rfl, h⟩ := h
  rcases h with ⟨l, rfl, hl, q⟩ | ⟨⟨t, ty, ek⟩, q⟩
  · refine ⟨_, rfl, _, _, _, _, true, rfl, .ty "str", .base (.str _), kit_ty (by decide +kernel), true, rfl, ?_⟩
    rw [if_pos rfl]
    refine ⟨_, rfl, _, rfl, fun D hD => ?_⟩
    refine lc_it (walk_str (z := S l)) (fun i H' => H' = upd H D (.lst ((l.take i).map fun c => V.bl (isS c)))) rfl (fun _ _ _ _ => trivial) (fun i x H1 H2 hi e y => ?_) (fun H1 e => ?_)
    · obtain ⟨eH, c, hc, rfl⟩ := y
      subst eH
      have hc' : l[i]? = some c := by simpa using hc
      refine ⟨rfl, ?_⟩
      dsimp only [tYes]
      rw [if_pos rfl]
      refine ⟨_, rfl, c, S signsL, rfl, rfl, ?_⟩
      subst e
      refine ⟨_, upd_same, szL (by rw [List.length_map, List.length_take]; omega), ?_⟩
      rw [upd_upd, List.take_add_one, hc']
      simp [isS]
    · subst e
      refine ⟨D, l.map isS, rfl, SqL.of (by rw [upd_same]; simp [List.take_length]), ?_⟩
      rw [List.all_map]
      exact q _ (same_new (fun _ _ z => z) hD _) (Ks.new1 hD _)
  · refine ⟨_, rfl, _, _, _, _, false, rfl, .ty "str", ty, ek, false, rfl, ?_⟩
    rw [if_neg Bool.false_ne_true]
    exact q

end
end Vf

set_option maxRecDepth 100000
set_option maxHeartbeats 4000000
namespace Vf
open PySem PySem.Spec PyProof.Rows L2 SX
section
variable {P : Program} {w : World} {K : PySem.W.Frag} {mg : Str → Option Value} {base : Heap}
theorem ok_isPatch {f : Addr} {fd : FuncData} (F : C8.Def K mg "is_patch" s_isPatch f fd) (b : Binds K fd ["value"] []) (T : Tx K w mg) (C_isText : C8.Cal P w K mg base 1 "is_text" (sp_isText K) []) : C8.Cal P w K mg base 2 "is_patch" (sp_isPatch K) [] := by
  refine C8.cal0 F b .nil sc_isPatch (fun vs H Q E h => ?_) (fun cdv A outer s H vs Q E hr h => ?_)
  · obtain ⟨x, rfl, _⟩ := h; rfl
  have hu := hu_of hr
  refine ⟨_, (pss_one (ps_ret (pe_and (C8.pe_c C_isText hr (by decide) rfl (pa_cons (pv 0) pa_nil)) (pe_one (pe_cmpR op_le (pe_callB call_len (by rfl) T.z_len PySem.boot_len (pa_cons (pv 0) pa_nil)) (C8.pe_gc rfl T.g_LONGEST_WORD) (nomark _)))))), ?_⟩

  obtain ⟨x, rfl, h⟩ := h
  rcases h with ⟨l, rfl, hl, q⟩ | ⟨n, q⟩
  · refine ⟨_, rfl, _, rfl, .inl ⟨l, rfl, hl, fun H' k1 k2 => ⟨_, rfl, ?_⟩⟩⟩
    have q' := q H' k1
    by_cases e : l.all isS = true
    · rw [if_pos e]
      rw [e, Bool.true_and] at q'
      refine ⟨_, rfl, _, l.length, rfl, ⟨by rw [S_len]; exact szB (by omega), by rw [S_len]⟩, _, _, rfl, rfl, ?_⟩
      show Q (.bl (decide ((l.length : Int) ≤ 6))) H'
      rw [show decide ((l.length : Int) ≤ 6) = decide (l.length ≤ 6) from decide_eq_decide.mpr (by omega)]
      exact q'
    · rw [if_neg e]
      rw [Bool.eq_false_iff.mpr e, Bool.false_and] at q'
      exact q'
  · refine ⟨_, rfl, _, rfl, .inr ⟨n, _, rfl, ?_⟩⟩
    rw [if_neg Bool.false_ne_true]
    exact q

end
end Vf

set_option maxRecDepth 100000
set_option maxHeartbeats 4000000
namespace Vf
open PySem PySem.Spec PyProof.Rows L2 SX
section
variable {P : Program} {w : World} {K : PySem.W.Frag} {mg : Str → Option Value} {base : Heap}
theorem ok_isLineWord {f : Addr} {fd : FuncData} (F : C8.Def K mg "is_line_word" s_isLineWord f fd) (b : Binds K fd ["value"] []) (T : Tx K w mg) (C_isPatch : C8.Cal P w K mg base 2 "is_patch" (sp_isPatch K) []) : C8.Cal P w K mg base 3 "is_line_word" (sp_isLineWord K) [] := by
  refine C8.cal0 F b .nil sc_isLineWord (fun vs H Q E h => ?_) (fun cdv A outer s H vs Q E hr h => ?_)
  · obtain ⟨x, rfl, _⟩ := h; rfl
  have hu := hu_of hr
  refine ⟨_, (pss_one (ps_ret (pe_and (C8.pe_c C_isPatch hr (by decide) rfl (pa_cons (pv 0) pa_nil)) (pe_one (pe_cmpR op_notIn_sign pe_str (pv 0) rfl))))), ?_⟩

  obtain ⟨x, rfl, h⟩ := h
  rcases h with ⟨l, rfl, hl, q⟩ | ⟨n, q⟩
  · refine ⟨_, rfl, _, rfl, .inl ⟨l, rfl, hl, fun H' k1 => ⟨_, rfl, ?_⟩⟩⟩
    have q' := q H' k1
    unfold lw at q'
    by_cases e : (l.all isS && decide (l.length ≤ 6)) = true
    · rw [if_pos e]
      rw [e, Bool.true_and] at q'
      refine ⟨_, rfl, 10, S l, rfl, rfl, ?_⟩
      simpa using q'
    · rw [if_neg e]
      rw [Bool.eq_false_iff.mpr e, Bool.false_and] at q'
      exact q'
  · refine ⟨_, rfl, _, rfl, .inr ⟨n, _, rfl, ?_⟩⟩
    rw [if_neg Bool.false_ne_true]
    exact q

end
end Vf

set_option maxRecDepth 100000
set_option maxHeartbeats 4000000
namespace Vf
open PySem PySem.Spec PyProof.Rows L2 SX
section
variable {P : Program} {w : World} {K : PySem.W.Frag} {mg : Str → Option Value} {base : Heap}
theorem ok_isPlain {f : Addr} {fd : FuncData} (F : C8.Def K mg "is_plain" s_isPlain f fd) (b : Binds K fd ["value"] []) (T : Tx K w mg) {CL : Addr} (CO : Co P w K mg base CL) (A0 : Ca K CL)  : C8.Cal P w K mg base 1 "is_plain" (sp_isPlain K CL) [] := by
  refine C8.cal0 F b .nil sc_isPlain (fun vs H Q E h => ?_) (fun cdv A outer s H vs Q E hr h => ?_)
  · obtain ⟨x, rfl, _⟩ := h; rfl
  have hu := hu_of hr
  refine ⟨_, (pss_one (ps_ret (pe_and (pe_callB call_isi (by rfl) T.z_isinstance (by decide +kernel) (pa_cons (pv 0) (pa_cons (pe_cls (CO.g_LineTest) rfl) pa_nil))) (pe_and (pe_cmpR op_ne (pe_fld (pv 0) rfl) pe_str (nomark _)) (pe_one (pe_not (pe_fld (pv 0) rfl))))))), ?_⟩

  obtain ⟨x, rfl, h⟩ := h
  rcases h with ⟨hn, q⟩ | ⟨a, dx, p, u, v, rfl, ha, hp, q⟩
  · rcases hn with ⟨t, ty, e⟩ | ⟨a, dx, p, u, v, n, rfl, ha, hp⟩
    · refine ⟨_, rfl, _, _, _, _, false, rfl, .own CL, ty, e, false, rfl, ?_⟩
      rw [if_neg Bool.false_ne_true]
      exact q
    · refine ⟨_, rfl, _, _, _, _, true, rfl, .own CL, .base (TyOf.ins ha CO.i.cl CO.i.ha CO.i.hn CO.i.htk CO.i.hm), CO.i.me, true, rfl, ?_⟩
      rw [if_pos rfl]
      refine ⟨_, rfl, a, CL, dx, _, _, rfl, ha, CO.i.cl, CO.a1, rfl, rfl, _, rfl, ?_⟩
      by_cases e : p.1 = "from"
      · rw [if_neg (by rw [e]; decide)]
        exact q
      · rw [if_pos (by rw [show decide (V.str p.1 = V.str "from") = false from decide_eq_false fun z => e (V.str.inj z)]; rfl)]
        refine ⟨_, rfl, a, CL, dx, _, _, rfl, ha, CO.i.cl, CO.a5, rfl, n, rfl, ?_⟩
        rcases hp with z | z
        · exact absurd z e
        · rw [z]; exact q
  · refine ⟨_, rfl, _, _, _, _, true, rfl, .own CL, .base (TyOf.ins ha CO.i.cl CO.i.ha CO.i.hn CO.i.htk CO.i.hm), CO.i.me, true, rfl, ?_⟩
    rw [if_pos rfl]
    refine ⟨_, rfl, a, CL, dx, _, _, rfl, ha, CO.i.cl, CO.a1, rfl, rfl, _, rfl, ?_⟩
    rw [if_pos (by rw [show decide (V.str p.1 = V.str "from") = false from decide_eq_false fun z => hp (V.str.inj z)]; rfl)]
    exact ⟨_, rfl, a, CL, dx, _, _, rfl, ha, CO.i.cl, CO.a5, rfl, false, rfl, q⟩

end
end Vf

set_option maxRecDepth 100000
set_option maxHeartbeats 4000000
namespace Vf
open PySem PySem.Spec PyProof.Rows L2 SX
section
variable {P : Program} {w : World} {K : PySem.W.Frag} {mg : Str → Option Value} {base : Heap}
theorem ok_isWhole {f : Addr} {fd : FuncData} (F : C8.Def K mg "is_whole" s_isWhole f fd) (b : Binds K fd ["value"] []) (T : Tx K w mg)  : C8.Cal P w K mg base 1 "is_whole" (sp_isWhole K) [] := by
  refine C8.cal0 F b .nil sc_isWhole (fun vs H Q E h => ?_) (fun cdv A outer s H vs Q E hr h => ?_)
  · obtain ⟨x, r, rfl, _⟩ := h; rfl
  have hu := hu_of hr
  refine ⟨_, (pss_one (ps_ret (pe_and (pe_callB call_isi (by rfl) T.z_isinstance (by decide +kernel) (pa_cons (pv 0) (pa_cons (pe_bltn (v := .ty "int") (by rfl) T.z_int (by decide +kernel) rfl) pa_nil))) (pe_one (pe_not (pe_callB call_isi (by rfl) T.z_isinstance (by decide +kernel) (pa_cons (pv 0) (pa_cons (pe_bltn (v := .ty "bool") (by rfl) T.z_bool (by decide +kernel) rfl) pa_nil)))))))), ?_⟩

  obtain ⟨x, r, rfl, ⟨t, b1, b2, ty, e1, e2, rfl⟩, q⟩ := h
  refine ⟨_, rfl, _, _, _, _, b1, rfl, .ty "int", ty, e1, b1, rfl, ?_⟩
  cases b1 with
  | true =>
    rw [if_pos rfl]
    exact ⟨_, rfl, _, _, _, _, b2, rfl, .ty "bool", ty, e2, b2, rfl, q⟩
  | false =>
    rw [if_neg Bool.false_ne_true]
    exact q

end
end Vf

set_option maxRecDepth 100000
set_option maxHeartbeats 4000000
namespace Vf
open PySem PySem.Spec PyProof.Rows L2 SX
section
variable {P : Program} {w : World} {K : PySem.W.Frag} {mg : Str → Option Value} {base : Heap}
theorem whole_int {K : PySem.W.Frag} {H : Hp} (i : Int) : Whole K H (.int i) true := ⟨_, true, false, .base (.int i), kit_ty (by decide +kernel), kit_ty (by decide +kernel), rfl⟩
theorem ok_isWithin {f : Addr} {fd : FuncData} (F : C8.Def K mg "is_within" s_isWithin f fd) (b : Binds K fd ["value", "bounds"] []) (T : Tx K w mg) (C_isWhole : C8.Cal P w K mg base 1 "is_whole" (sp_isWhole K) []) : C8.Cal P w K mg base 2 "is_within" (sp_isWithin K) [] := by
  refine C8.cal0 F b .nil sc_isWithin (fun vs H Q E h => ?_) (fun cdv A outer s H vs Q E hr h => ?_)
  · obtain ⟨x, a, lo, hi, rfl, _⟩ := h; rfl
  have hu := hu_of hr
  refine ⟨_, (pss_one (ps_ret (pe_and (C8.pe_c C_isWhole hr (by decide) rfl (pa_cons (pv 0) pa_nil)) (pe_one (pe_chain op_le op_le (pe_ix ix_tup (pv 1) pe_int (fun _ _ => rfl)) (pv 0) (pe_ix ix_tup (pv 1) pe_int (fun _ _ => rfl))))))), ?_⟩

  obtain ⟨x, a, lo, hi, rfl, ha, h⟩ := h
  rcases h with ⟨hw, q⟩ | ⟨i, rfl, q⟩
  · refine ⟨_, rfl, x, false, rfl, hw, _, rfl, ?_⟩
    rw [if_neg Bool.false_ne_true]
    exact q
  · refine ⟨_, rfl, _, true, rfl, whole_int i, _, rfl, ?_⟩
    rw [if_pos rfl]
    refine ⟨_, rfl, a, _, 0, _, rfl, rfl, ha, rfl, _, rfl, _, _, rfl, rfl, _, rfl, ?_⟩
    by_cases e : lo ≤ i
    · rw [if_pos (decide_eq_true e)]
      rw [decide_eq_true e, Bool.true_and] at q
      exact ⟨_, rfl, a, _, 1, _, rfl, rfl, ha, rfl, _, _, rfl, rfl, q⟩
    · rw [if_neg (fun z => e (of_decide_eq_true z))]
      rw [decide_eq_false e, Bool.false_and] at q
      exact q

end
end Vf

set_option maxRecDepth 100000
set_option maxHeartbeats 4000000
namespace Vf
open PySem PySem.Spec PyProof.Rows L2 SX
section
variable {P : Program} {w : World} {K : PySem.W.Frag} {mg : Str → Option Value} {base : Heap}
theorem ok_lawRead {f : Addr} {fd : FuncData} (F : C8.Def K mg "_law_read" s_lawRead f fd) (b : Binds K fd ["_law_line"] []) (T : Tx K w mg) {CBadText CBadWord CBadNumber CW : Addr} (ES : Es P w K mg base CBadText CBadWord CBadNumber CW) {CL : Addr} (C_readLinetest : CalX P w K mg base 8 "read_linetest" (sp_readLinetest CL CBadText CBadWord CBadNumber)) : C8.Cal P w K mg base 9 "_law_read" (sp_lawRead CL) [] := by
  refine C8.cal0 F b .nil sc_lawRead (fun vs H Q E h => ?_) (fun cdv A outer s H vs Q E hr h => ?_)
  · obtain ⟨l, ws, f, m, rfl, _⟩ := h; rfl
  have hu := hu_of hr
  refine ⟨_, (pss_cons (ps_try_ma (i := 2) rfl rfl sc_lawRead.nd rfl rfl takes0 (fun W pn xe tk _ => (pss_one (ps_set (i := 1) sc_lawRead.nd rfl (Or.inl rfl) (pe_tup (pa_cons pe_str (pa_cons (pe_cx C_readLinetest hr (by decide) rfl tk (pa_cons (pv 0) pa_nil)) pa_nil))))))
      (HdsA.cons ⟨rfl, by decide, .inl ES.r_BadNumber.rc.g⟩ (fun a oe cls d pn hz hf => (pss_one (ps_set (i := 1) sc_lawRead.nd rfl (Or.inl rfl) (pe_tup (pa_cons pe_str (pa_cons (pe_xf (ES.r_BadNumber.rc.x) (ES.r_BadNumber.no "what" (by simp)) hz hf (pv 2)) (pa_cons (pe_xf (ES.r_BadNumber.rc.x) (ES.r_BadNumber.no "number" (by simp)) hz hf (pv 2)) pa_nil))))))) (HdsA.cons ⟨rfl, by decide, .inl ES.r_BadWord.rc.g⟩ (fun a oe cls d pn hz hf => (pss_one (ps_set (i := 1) sc_lawRead.nd rfl (Or.inl rfl) (pe_tup (pa_cons pe_str (pa_cons (pe_xf (ES.r_BadWord.rc.x) (ES.r_BadWord.no "what" (by simp)) hz hf (pv 2)) pa_nil)))))) HdsA.nil)))
      (pss_one (ps_ret (pv 1)))), ?_⟩
  obtain ⟨l, ws, fo, m, rfl, hl, hlex, tg, fm, md, qo, qe⟩ := h
  refine ⟨_, rfl, l, ws, some fo, [], rfl, hl, hlex, tg, fm, (fun z => by cases z), fun f' hf => ?_⟩
  cases hf
  refine ⟨rfl, m, md, fun hm H' b s1 ts => ⟨sz_2, fun t ht => ?_⟩, fun e he d H' s1 ex => ?_⟩
  · have s2 := same_new (Same.refl H') ht (.tup [.str "told", .ref b])
    exact ⟨_, rfl, qo hm _ t b (Same.trans s1 s2) upd_same (ts.sm s2)⟩
  · cases e with
    | word x =>
      have hd : H' d = some (.xd [("what", .str x)]) := ex
      refine ⟨false, ES.x.bn, (fun z => nomatch z), fun _ => ⟨true, ES.x.bb, fun _ a ha => ?_, fun z => nomatch z⟩⟩
      refine ⟨_, rfl, rfl, rfl, d, _, _, rfl, hd, rfl, sz_2, fun t ht => ?_⟩
      exact ⟨_, rfl, qe _ he _ t (Same.trans s1 (same_new (Same.refl H') ht _)) upd_same⟩
    | num x v =>
      have hd : H' d = some (.xd [("number", v), ("what", .str x)]) := ex
      refine ⟨true, ES.x.nn, fun _ a ha => ?_, fun z => nomatch z⟩
      refine ⟨_, rfl, rfl, rfl, d, _, _, rfl, hd, rfl, _, rfl, rfl, rfl, d, _, _, rfl, hd, rfl, sz_3, fun t ht => ?_⟩
      exact ⟨_, rfl, qe _ he _ t (Same.trans s1 (same_new (Same.refl H') ht _)) upd_same⟩

end
end Vf

set_option maxRecDepth 100000
set_option maxHeartbeats 4000000
namespace Vf
open PySem PySem.Spec PyProof.Rows L2 SX
section
variable {P : Program} {w : World} {K : PySem.W.Frag} {mg : Str → Option Value} {base : Heap}
theorem atI_m1 {t : List Nat} {c : Nat} (h : t.getLast? = some c) : atI t (-1) = some c := by
  obtain ⟨r, e⟩ := List.getLast?_eq_some_iff.mp h
  rw [e]
  exact atI_last r c
theorem lastT_eq : ∀ (is : List (Nat × List Nat)) (pv : List Nat), lastT pv is = (is.map (·.2)).getLast?.getD pv
  | [], _ => rfl
  | [(_, t)], _ => rfl
  | (_, t) :: b :: r, pv => by
    show lastT t (b :: r) = _
    rw [lastT_eq (b :: r) t]
    show (b.2 :: r.map (·.2)).getLast?.getD t = (t :: b.2 :: r.map (·.2)).getLast?.getD pv
    rw [List.getLast?_cons_cons]
    rcases List.eq_nil_or_concat (b.2 :: r.map (·.2)) with h | ⟨x, y, h⟩
    · cases h
    · rw [h, List.concat_eq_append, List.getLast?_append]; rfl
theorem ok_lineOfWords {f : Addr} {fd : FuncData} (F : C8.Def K mg "_law_line_of_words" s_lineOfWords f fd) (b : Binds K fd ["_law_pen_here", "_law_words"] []) (T : Tx K w mg) (C_draw : C8.Cal P w K mg base 1 "_law_draw" sp_draw []) : C8.Cal P w K mg base 2 "_law_line_of_words" sp_lineOfWords [] := by
  refine C8.cal0 F b .nil sc_lineOfWords (fun vs H Q E h => ?_) (fun cdv A outer s H vs Q E hr h => ?_)
  · obtain ⟨p, c, lw, m, ts, rfl, _⟩ := h; rfl
  have hu := hu_of hr
  refine ⟨_, (C8.pss_cut (ps_asg (pe_tup (pa_cons pe_str (pa_cons pe_str pa_nil))) (pg_tup (by rfl) (pgs_cons (pg_name (i := 2) sc_lineOfWords.nd rfl (Or.inl rfl)) (pgs_cons (pg_name (i := 3) sc_lineOfWords.nd rfl (Or.inl rfl)) pgs_nil))))
      (pss_cons (ps_par (i := 4) (j := 5) (by rfl) sc_lineOfWords.nd rfl rfl (by decide) rfl rfl (pa_cons (pe_op op_rep_str pe_str (C8.pe_c C_draw hr (by decide) rfl (pa_cons (pv 0) (pa_cons pe_int pa_nil)))) (pa_cons (pe_lst pa_nil) pa_nil)) (by rfl))
      (pss_cons (ps_for PassesOwn.never rfl (pi_range1 (by rfl) T.z_range (pa_cons (pe_callB call_len (by rfl) T.z_len PySem.boot_len (pa_cons (pv 1) pa_nil)) pa_nil)) (pg_name (i := 6) sc_lineOfWords.nd rfl (Or.inl rfl))
      (C8.pss_cut (ps_if (pt_cmpR op_gt (pv 6) pe_int (nomark _))
      (pss_cons (ps_set (i := 7) sc_lineOfWords.nd rfl (Or.inl rfl) pe_int)
      (pss_cons (ps_for PassesOwn.never rfl (pi_tup (pe_tup (pa_cons (pv 2) (pa_cons (pv 3) pa_nil)))) (pg_name (i := 8) sc_lineOfWords.nd rfl (Or.inl rfl))
      (pss_one (ps_if (PW.pt (pw_and (pt_cmpR op_in_sign (pe_ix ix_str (pe_ix ix_list (pv 1) (pe_op op_sub (pv 6) pe_int) (fun _ _ => rfl)) (pe_un un_neg pe_int) (fun _ _ => rfl)) (pv 8) rfl) (pw_and1 (pt_cmpR op_in_sign (pe_ix ix_str (pe_ix ix_list (pv 1) (pv 6) (fun _ _ => rfl)) pe_int (fun _ _ => rfl)) (pv 8) rfl))))
      (pss_one (ps_set (i := 7) sc_lineOfWords.nd rfl (Or.inl rfl) pe_int))
      pss_nil)))
      (pss_one (ps_set (i := 4) sc_lineOfWords.nd rfl (Or.inl rfl) (pe_op op_add_str (pv 4) (pe_op op_rep_str pe_str (pe_callB (call_max2 rfl) (by rfl) T.z_max (by decide +kernel) (pa_cons (pv 7) (pa_cons (C8.pe_c C_draw hr (by decide) rfl (pa_cons (pv 0) (pa_cons pe_int pa_nil))) pa_nil)))))))))
      pss_nil)
      (pss_cons (ps_expr (pe_bm PySem.F.plainAttrs_list PySem.F.slot_list_append PySem.F.type_list_append mt_append (pv 5) (pa_cons (pe_op op_add (pe_callB call_len (by rfl) T.z_len PySem.boot_len (pa_cons (pv 4) pa_nil)) pe_int) pa_nil)))
      (pss_one (ps_set (i := 4) sc_lineOfWords.nd rfl (Or.inl rfl) (pe_op op_add_str (pv 4) (pe_ix ix_list (pv 1) (pv 6) (fun _ _ => rfl))))))))
      (pss_one (ps_ret (pe_tup (pa_cons (pe_op op_add_str (pv 4) (pe_op op_rep_str pe_str (C8.pe_c C_draw hr (by decide) rfl (pa_cons (pv 0) (pa_cons pe_int pa_nil))))) (pa_cons (pv 5) pa_nil)))))))), ?_⟩

  obtain ⟨p, c, lw, m, ts, rfl, hp, hm, hlw, hn, hts, q⟩ := h
  have gt : ∀ i : Nat, i < ts.length → ∃ t, ts[i]? = some t ∧ t ≠ [] ∧ t.length ≤ 30 ∧ (ts.map fun t => V.str (S t))[i]? = some (.str (S t)) := fun i hi =>
    ⟨ts[i], List.getElem?_eq_getElem hi, (hts _ (List.getElem_mem hi)).1, (hts _ (List.getElem_mem hi)).2, by rw [List.getElem?_map, List.getElem?_eq_getElem hi]; rfl⟩
  refine ⟨fun σ' H' => σ' = [some (.ref p), some (.ref lw), some (.str (S lowL)), some (.str (S figL)), none, none, none, none, none] ∧ Ks H H' ∧ PenAt H' p c m, ?_, ?_⟩
  · exact ⟨sz_2, fun z0 nz0 => ⟨z0, _, rfl, SqT.of upd_same, rfl, _, _, rfl, _, _, rfl, rfl, rfl, Ks.new1 nz0 _, hp.new nz0⟩⟩
  rintro σ' Hz ⟨rfl, kz, hpz⟩
  replace hlw := kz.lst hlw
  replace q := fun H2 a cl is e (s : Ks Hz H2) => q H2 a cl is e (kz.trans s)
  clear kz hp
  have hp := hpz
  clear hpz
  refine ⟨_, rfl, p, c, m, 3, rfl, hp, by omega, by decide, by decide, fun H1 g0 k1 k2 hg0 => ?_⟩
  refine ⟨[32], g0, rfl, rfl, by omega, by show 1 * g0 ≤ 1000000; omega, Nat.zero_le _, fun cl ncl => ⟨_, _, rfl, ?_⟩⟩
  have nclp := k2.ne ncl
  have ncl0 : Hz cl = none := k1.free ncl
  refine ⟨_, rfl, _, ts.length, rfl, .inl ⟨_, SqL.of ((k1.new ncl _).lst hlw), by rw [List.length_map]⟩, _, rfl, by omega, by omega, ?_⟩
  rw [show ((ts.length : Int)).toNat = ts.length from Int.toNat_natCast _]
  refine for_range (lo := 0) (n := ts.length) (fun k σ H' => ∃ (is : List (Nat × List Nat)) (g : Nat) (v6 v7 v8 : Option V), σ = [some (.ref p), some (.ref lw), some (.str (S lowL)), some (.str (S figL)), some (.str (S (asm is ++ blanks g))), some (.ref cl), v6, v7, v8] ∧
      Ks Hz H' ∧ PenAt H' p c (m + 1 + k) ∧ H' cl = some (.lst ((cols 0 is).map fun n : Nat => V.int (n : Int))) ∧ is.map (·.2) = ts.take k ∧ Gaps [] is ∧ (asm is).length ≤ 50 * k ∧ (1 ≤ k → g = 0) ∧ g ≤ 3)
    ⟨[], g0, none, none, none, rfl, (k1.new ncl _), k2.new ncl, upd_same, rfl, trivial, Nat.zero_le _, (by omega), by omega⟩ ?_ ?_
  · rintro k σ H2 hk ⟨is, g, v6, v7, v8, rfl, s1, hp2, hcl, hts2, hgap, hlen, hg1, hg2⟩
    obtain ⟨t, ht, tne, tl, hti⟩ := gt k hk
    have hlw2 : H2 lw = some (.lst (ts.map fun t => V.str (S t))) := s1.lst hlw
    have el : is.length = k := by
      have := congrArg List.length hts2
      rw [List.length_map, List.length_take] at this
      omega
    -- the gap
    refine ⟨fun σ' H3 => ∃ (g' : Nat) (v7 v8 : Option V), σ' = [some (.ref p), some (.ref lw), some (.str (S lowL)), some (.str (S figL)), some (.str (S (asm is ++ blanks g'))), some (.ref cl), some (.int ((k : Nat) : Int)), v7, v8] ∧
      Ks Hz H3 ∧ PenAt H3 p c (m + 1 + k + 1) ∧ H3 cl = some (.lst ((cols 0 is).map fun n : Nat => V.int (n : Int))) ∧ (clash (lastT [] is) t → 1 ≤ g') ∧ g' ≤ 3, ?_, ?_⟩
    · have ek : ((0 : Int) + (k : Int)) = (k : Int) := Int.zero_add _
      rw [ek]
      refine ⟨_, rfl, _, _, rfl, rfl, _, rfl, ?_⟩
      refine ite2 (fun e1 => ?_) (fun e1 => ?_)
      · have e1' : (0 : Int) < (k : Int) := of_decide_eq_true e1
        have hk1 : k - 1 < ts.length := by omega
        obtain ⟨u, hu, une, ul, hui⟩ := gt (k - 1) hk1
        obtain ⟨cu, hcu⟩ : ∃ cu, u.getLast? = some cu := ⟨u.getLast une, List.getLast?_eq_some_getLast une⟩
        obtain ⟨ct, rt, et⟩ : ∃ ct rt, t = ct :: rt := by
          cases t with
          | nil => exact absurd rfl tne
          | cons x r => exact ⟨x, r, rfl⟩
        have hct : t[0]? = some ct := by rw [et]; rfl
        have hl : lastT [] is = u := by
          rw [lastT_eq, hts2, List.getLast?_eq_getElem?, List.length_take, Nat.min_eq_left (by omega), List.getElem?_take_of_lt (by omega), hu]
          rfl
        have ce : clash (lastT [] is) t → ((cu ∈ lowL ∧ ct ∈ lowL) ∨ (cu ∈ figL ∧ ct ∈ figL)) := fun ⟨x, y, hx, hy, hz⟩ => by
          rw [hl, hcu] at hx
          rw [et] at hy
          cases hx
          cases hy
          exact hz
        refine ⟨_, rfl, _, rfl, sz_2, fun z1 nz1 => ⟨z1, rfl, ⟨_, SqT.of upd_same⟩, ?_⟩⟩
        refine for_tup (K := K) (a := z1) (xs := [.str (S lowL), .str (S figL)]) (fun i σ H' => ∃ (z : Nat) (v8 : Option V), σ = [some (.ref p), some (.ref lw), some (.str (S lowL)), some (.str (S figL)), some (.str (S (asm is ++ blanks g))), some (.ref cl), some (.int ((k : Nat) : Int)), some (.int (z : Int)), v8] ∧
          H' = upd H2 z1 (.tup [.str (S lowL), .str (S figL)]) ∧ z ≤ 1 ∧ (1 ≤ i → cu ∈ lowL → ct ∈ lowL → z = 1) ∧ (2 ≤ i → cu ∈ figL → ct ∈ figL → z = 1)) ⟨0, v8, rfl, rfl, by omega, by omega, by omega⟩ (fun i σ H' _ ⟨_, _, _, e, _⟩ => by rw [e]; exact SqT.of upd_same) ?_ ?_
        · rintro i x σ H' hi ⟨z, v8', rfl, rfl, hz1, hz2, hz3⟩
          obtain ⟨L, rfl, hL⟩ : ∃ L, x = .str (S L) ∧ ((i = 0 ∧ L = lowL) ∨ (i = 1 ∧ L = figL)) := by
            match i, hi with
            | 0, hi => exact ⟨lowL, (Option.some.inj hi).symm, .inl ⟨rfl, rfl⟩⟩
            | 1, hi => exact ⟨figL, (Option.some.inj hi).symm, .inr ⟨rfl, rfl⟩⟩
            | n + 2, hi => simp at hi
          have hS : SqL K (upd H2 z1 (.tup [.str (S lowL), .str (S figL)])) lw (ts.map fun t => V.str (S t)) := SqL.of (by rw [upd_ne (ne_of_none hlw2 nz1)]; exact hlw2)
          refine ⟨_, rfl, _, rfl, _, _, rfl, rfl, lw, _, _, _, rfl, rfl, hS, at_of (show ((k : Nat) : Int) - 1 = ((k - 1 : Nat) : Int) by omega) hui, _, rfl, S u, _, cu, rfl, rfl, by rw [S_len]; exact szB (by omega), atI_m1 hcu, _, rfl, cu, S L, rfl, rfl, _, rfl, ?_⟩
          by_cases h1 : cu ∈ L
          · rw [show decide (cu ∈ (S L).cps.toList) = true from decide_eq_true h1]
            refine iteT ?_
            refine ⟨_, rfl, _, rfl, lw, _, _, _, rfl, rfl, hS, atI_nat hti, S t, _, ct, rfl, rfl, by rw [S_len]; exact szB (by omega), atI_nat (j := 0) hct, _, rfl, ct, S L, rfl, rfl, _, rfl, ?_⟩
            by_cases h2 : ct ∈ L
            · rw [show decide (ct ∈ (S L).cps.toList) = true from decide_eq_true h2]
              refine iteT ?_
              exact ⟨1, _, rfl, rfl, by omega, fun _ _ _ => rfl, fun _ _ _ => rfl⟩
            · rw [show decide (ct ∈ (S L).cps.toList) = false from decide_eq_false h2]
              refine iteF ?_
              refine ⟨z, _, rfl, rfl, hz1, fun _ a b => ?_, fun _ a b => ?_⟩
              · rcases hL with ⟨e1, e2⟩ | ⟨e1, e2⟩
                · exact absurd (e2 ▸ b) h2
                · exact hz2 (by omega) a b
              · rcases hL with ⟨e1, e2⟩ | ⟨e1, e2⟩
                · omega
                · exact absurd (e2 ▸ b) h2
          · rw [show decide (cu ∈ (S L).cps.toList) = false from decide_eq_false h1]
            refine iteF ?_
            refine ⟨z, _, rfl, rfl, hz1, fun _ a b => ?_, fun _ a b => ?_⟩
            · rcases hL with ⟨e1, e2⟩ | ⟨e1, e2⟩
              · exact absurd (e2 ▸ a) h1
              · exact hz2 (by omega) a b
            · rcases hL with ⟨e1, e2⟩ | ⟨e1, e2⟩
              · omega
              · exact absurd (e2 ▸ a) h1
        · rintro σ H' ⟨z, v8', rfl, rfl, hz1, hz2, hz3⟩
          refine ⟨_, rfl, _, rfl, _, rfl, p, c, _, 3, rfl, hp2.new nz1, by omega, by decide, by decide, fun H4 r j1 j2 hr4 => ?_⟩
          have em : V.int (if ((r : Nat) : Int) > (z : Int) then ((r : Nat) : Int) else (z : Int)) = .int ((max r z : Nat) : Int) := by
            congr 1
            split <;> omega
          refine ⟨_, _, rfl, [32], max r z, rfl, em, by omega, by show 1 * _ ≤ 1000000; omega, _, _, rfl, rfl, by rw [S_len, S_len, List.length_append, blanks_len, rep_len]; exact szB (by show _ + _ * 1 ≤ 1000000; omega), ?_⟩
          rw [S_cat]
          have g0' : g = 0 := hg1 (by omega)
          have eb : asm is ++ blanks g ++ repL (max r z) [32] = asm is ++ blanks (max r z) := by
            rw [g0']
            show asm is ++ [] ++ _ = _
            rw [List.append_nil]
            rfl
          rw [eb]
          refine ⟨max r z, _, _, rfl, (s1.new nz1 _).trans j1, j2.mono (by omega), j1.lst (by rw [upd_ne (ne_of_none hcl nz1)]; exact hcl), fun hc => ?_, by omega⟩
          rcases ce hc with ⟨a, b⟩ | ⟨a, b⟩
          · have := hz2 (by show 1 ≤ 2; decide) a b
            omega
          · have := hz3 (by show 2 ≤ 2; decide) a b
            omega
      · have e1' : ¬ (0 : Int) < (k : Int) := of_decide_eq_false (Bool.eq_false_iff.mpr e1)
        have k0 : k = 0 := by omega
        subst k0
        have is0 : is = [] := List.eq_nil_of_length_eq_zero el
        subst is0
        exact ⟨g, v7, v8, rfl, s1, hp2.mono (by omega), hcl, (fun ⟨c, d, h1, _⟩ => by cases h1), hg2⟩
    · rintro σ' H3 ⟨g', v7', v8', rfl, s2, hp3, hcl3, hcg, hg'⟩
      have npc := hp3
      refine ⟨_, rfl, .inl ⟨rfl, _, .inl (.inl hcl3)⟩, _, rfl, _, (asm is ++ blanks g').length, rfl, ⟨by rw [S_len, List.length_append, blanks_len]; exact szB (by omega), by rw [S_len]⟩, _, _, rfl, rfl, cl, _, _, rfl, rfl, hcl3, szL (by rw [List.length_map, cols_len]; omega), ?_⟩
      refine ⟨_, rfl, _, rfl, _, rfl, lw, _, _, _, rfl, rfl, SqL.of ?_, atI_nat hti, _, _, rfl, rfl, by rw [S_len, S_len, List.length_append, blanks_len]; exact szB (by omega), ?_⟩
      · rw [upd_ne (show lw ≠ cl from ne_of_none hlw ncl0)]
        exact s2.lst hlw
      rw [S_cat]
      refine ⟨is ++ [(g', t)], 0, some (.int ((k : Nat) : Int)), v7', v8', ?_, s2.upd ncl0 _, hp3.upd nclp.1 nclp.2, ?_, ?_, gaps_snoc g' t is [] hgap hcg, ?_, fun _ => rfl, Nat.zero_le _⟩
      · rw [asm_snoc, show blanks 0 = [] from rfl, List.append_nil]
        rfl
      · rw [upd_same, cols_snoc, List.map_append, List.length_append, blanks_len]
        show some (HO.lst (_ ++ [V.int (((asm is).length + g' : Nat) + 1)])) = some (HO.lst (_ ++ [V.int ((0 + (asm is).length + g' + 1 : Nat) : Int)]))
        rw [show ((0 + (asm is).length + g' + 1 : Nat) : Int) = (((asm is).length + g' : Nat) : Int) + 1 by omega]
      · rw [List.map_append, hts2, List.take_add_one, ht]
        rfl
      · rw [asm_snoc, List.length_append, List.length_append, blanks_len]
        omega
  · rintro σ H2 ⟨is, g, v6, v7, v8, rfl, s1, hp2, hcl, hts2, hgap, hlen, hg1, hg2⟩
    rw [List.take_length] at hts2
    refine ⟨_, rfl, _, rfl, p, c, _, 2, rfl, hp2, by omega, by decide, by decide, fun H3 e j1 j2 he => ?_⟩
    refine ⟨[32], e, rfl, rfl, by omega, by show 1 * e ≤ 1000000; omega, _, _, rfl, rfl, by rw [S_len, S_len, List.length_append, blanks_len, rep_len]; exact szB (by show _ + e * 1 ≤ 1000000; omega), ?_⟩
    rw [S_cat]
    refine ⟨_, rfl, sz_2, fun a na => ?_⟩
    have eb : asm is ++ blanks g ++ repL e [32] = asm is ++ blanks (g + e) := by
      rw [List.append_assoc]
      show _ ++ (blanks g ++ blanks e) = _
      rw [blanks_add]
    rw [eb]
    exact q _ a cl is (g + e) ((s1.trans j1).new na _) ((j2.new na).mono (by omega)) upd_same (by rw [upd_ne (ne_of_none (j1.lst hcl) na)]; exact j1.lst hcl) hts2 hgap (by omega) (by omega)

end
end Vf

set_option maxRecDepth 100000
set_option maxHeartbeats 4000000
namespace Vf
open PySem PySem.Spec PyProof.Rows L2 SX
section
variable {P : Program} {w : World} {K : PySem.W.Frag} {mg : Str → Option Value} {base : Heap}
theorem qRead_gt (a0 : Nat) : ∀ (n : Nat) (r : List Nat) (pl : Nat) (acc : List Nat), r.length ≤ n → pl ≤ (qRead a0 r pl acc).2.2
  | _, [], pl, acc, _ => Nat.le_refl _
  | 0, c :: r, pl, acc, h => absurd h (by simp)
  | n + 1, c :: r, pl, acc, h => by
    rw [qRead_cons]
    by_cases h1 : c = 34
    · rw [if_pos h1]; exact Nat.le_succ _
    · rw [if_neg h1]
      by_cases h2 : c = 92
      · rw [if_pos h2]
        cases r with
        | nil => exact Nat.le_refl _
        | cons e r' =>
          dsimp only
          cases hm : mean e with
          | none => exact Nat.le_refl _
          | some m => exact Nat.le_trans (by omega) (qRead_gt a0 n r' (pl + 2) _ (by simp only [List.length_cons] at h; omega))
      · rw [if_neg h2]
        by_cases h3 : c ∈ signsL
        · rw [if_pos h3]
          exact Nat.le_trans (by omega) (qRead_gt a0 n r (pl + 1) _ (by simp only [List.length_cons] at h; omega))
        · rw [if_neg h3]; exact Nat.le_refl _
theorem numAt_end (l : List Nat) (i : Nat) : (numAt l i).2.2 = runEnd figL l i := by
  unfold numAt
  split
  · rfl
  · split <;> rfl
theorem wAt_gt {l : List Nat} {i c : Nat} (h : l[i]? = some c) : i < (wAt l i).2.2 := by
  unfold wAt
  rw [h]
  dsimp only
  split
  · rename_i h1
    show i < runEnd lowL l i
    rw [← runEnd_step h h1]
    exact runEnd_ge lowL l (i + 1)
  · split
    · rename_i h2
      rw [numAt_end, ← runEnd_step h h2]
      exact runEnd_ge figL l (i + 1)
    · split
      · exact qRead_gt i _ _ (i + 1) [] (Nat.le_refl _)
      · split
        · exact Nat.lt_succ_self _
        · exact Nat.lt_succ_self _
theorem ok_lineWords {f : Addr} {fd : FuncData} (F : C8.Def K mg "line_words" s_lineWords f fd) (b : Binds K fd ["line"] []) (T : Tx K w mg) (C_wordAt : C8.Cal P w K mg base 3 "word_at" sp_wordAt []) : C8.Cal P w K mg base 4 "line_words" sp_lineWords [] := by
  refine C8.cal0 F b .nil sc_lineWords (fun vs H Q E h => ?_) (fun cdv A outer s H vs Q E hr h => ?_)
  · obtain ⟨l, rfl, _⟩ := h; rfl
  have hu := hu_of hr
  refine ⟨_, (pss_cons (ps_set (i := 1) sc_lineWords.nd rfl (Or.inl rfl) (pe_lst pa_nil))
      (pss_cons (ps_set (i := 2) sc_lineWords.nd rfl (Or.inl rfl) pe_int)
      (pss_cons (ps_while PassesOwn.never (pt_cmpR op_lt (pv 2) (pe_callB call_len (by rfl) T.z_len PySem.boot_len (pa_cons (pv 0) pa_nil)) (nomark _))
      (pss_cons (ps_if (pt_cmpR op_eq (pe_ix ix_str (pv 0) (pv 2) (fun _ _ => rfl)) pe_str (nomark _))
      (pss_cons (ps_aug (i := 2) sc_lineWords.nd rfl (Or.inl rfl) pe_int ip_add)
      (pss_one ps_continue))
      pss_nil)
      (pss_cons (ps_asg (C8.pe_c C_wordAt hr (by decide) rfl (pa_cons (pv 0) (pa_cons (pv 2) pa_nil))) (pg_tup (by rfl) (pgs_cons (pg_name (i := 3) sc_lineWords.nd rfl (Or.inl rfl)) (pgs_cons (pg_name (i := 4) sc_lineWords.nd rfl (Or.inl rfl)) (pgs_cons (pg_name (i := 5) sc_lineWords.nd rfl (Or.inl rfl)) pgs_nil)))))
      (pss_cons (ps_expr (pe_bm PySem.F.plainAttrs_list PySem.F.slot_list_append PySem.F.type_list_append mt_append (pv 1) (pa_cons (pe_tup (pa_cons (pv 3) (pa_cons (pv 4) (pa_cons (pe_op op_add (pv 2) pe_int) pa_nil)))) pa_nil)))
      (pss_one (ps_set (i := 2) sc_lineWords.nd rfl (Or.inl rfl) (pe_ifExp (pt_val (pe_bm PySem.F.plainAttrs_str PySem.F.slot_str_startswith PySem.F.type_str_startswith mt_startswith (pv 3) (pa_cons pe_str pa_nil))) (pe_callB call_len (by rfl) T.z_len PySem.boot_len (pa_cons (pv 0) pa_nil)) (pv 5))))))))
      (pss_one (ps_ret (pe_callTy call_tuple_of (by rfl) T.z_tuple (by decide +kernel) (pa_cons (pv 1) pa_nil))))))), ?_⟩

  obtain ⟨l, rfl, hl, q⟩ := h
  refine ⟨Nat.zero_le _, fun sA nA => ?_⟩
  refine while_by (fun σ' H' => ∃ (j : Nat) (as : List Addr) (ws : List W3) (v3 v4 v5 : Option V), σ' = [some (.str (S l)), some (.ref sA), some (.int (j : Int)), v3, v4, v5] ∧ Same H H' ∧ H' sA = some (.lst (as.map V.ref)) ∧ as.length ≤ j ∧ as.length ≤ l.length ∧ Paired (fun a w => H' a = some (.tup (w3V w))) as ws ∧ ∀ r, Lex l j r → Lex l 0 (ws ++ r)) (fun σ' _ => l.length - (match σ' with | [_, _, some (.int z), _, _, _] => z.toNat | _ => 0)) ⟨0, [], [], none, none, none, rfl, same_new (Same.refl H) nA _, upd_same, Nat.zero_le _, Nat.zero_le _, .nil, fun r h => h⟩ ?_ ?_
  · rintro σ' H' ⟨j, as, ws, v3, v4, v5, rfl, s1, hA, ha1, ha2, hP, hL⟩
    refine ⟨_, rfl, _, rfl, _, l.length, rfl, ⟨by rw [S_len]; exact szB (by omega), by rw [S_len]⟩, _, _, rfl, rfl, _, rfl, ?_⟩
    refine ite2 (fun e1 => ?_) (fun e1 => ?_)
    · have e1' : (j : Int) < (l.length : Int) := of_decide_eq_true e1
      have hj : j < l.length := by omega
      have gc : l[j]? = some l[j] := List.getElem?_eq_getElem hj
      generalize l[j] = ch at gc
      refine ⟨_, rfl, _, rfl, S l, _, ch, rfl, rfl, by rw [S_len]; exact szB (by omega), atI_nat gc, rfl, _, rfl, ?_⟩
      refine ite2 (fun e2 => ?_) (fun e2 => ?_)
      · have e2' : ch = 32 := of_decide_eq_true ((eq1 ch 32).symm.trans e2)
        refine ⟨_, rfl, _, _, rfl, rfl, ⟨j + 1, as, ws, v3, v4, v5, rfl, s1, hA, by omega, ha2, hP, fun r hr2 => hL r (.blank (by rw [gc, e2']) hr2)⟩, ?_⟩
        show l.length - ((j : Int) + 1).toNat < l.length - ((j : Int)).toNat
        omega
      · have e2' : ¬ ch = 32 := fun z => e2 ((eq1 ch 32).trans (decide_eq_true z))
        have hgt := wAt_gt gc
        refine ⟨_, rfl, _, rfl, l, j, rfl, hl, hj, fun H2 a s2 hT => ?_⟩
        refine ⟨a, _, rfl, SqT.of hT, rfl, _, _, rfl, _, _, rfl, _, _, rfl, rfl, ?_⟩
        refine ⟨_, rfl, .inl ⟨rfl, _, .inl (.inl (s2 _ _ hA))⟩, _, rfl, _, rfl, _, rfl, _, _, rfl, rfl, sz_3, fun p np => ?_⟩
        have npA : sA ≠ p := ne_of_none (s2 _ _ hA) np
        refine ⟨sA, _, _, rfl, rfl, by rw [upd_ne npA]; exact s2 _ _ hA, szL (by rw [List.length_map]; omega), ?_⟩
        have s3 : Same H (upd (upd H2 p (.tup [.str (wAt l j).1, (wAt l j).2.1, .int ((j : Int) + 1)])) sA (.lst (as.map V.ref ++ [V.ref p]))) := same_upd (same_new (s1.trans s2) np _) nA _
        have hN : ∀ b xs, H' b = some (.tup xs) → (upd (upd H2 p (.tup [.str (wAt l j).1, (wAt l j).2.1, .int ((j : Int) + 1)])) sA (.lst (as.map V.ref ++ [V.ref p]))) b = some (.tup xs) := fun b xs hb => by
          have hb2 := s2 _ _ hb
          rw [upd_ne (ne_of hb2 (s2 _ _ hA) (by intro z; cases z)), upd_ne (ne_of_none hb2 np)]
          exact hb2
        have hP2 : Paired (fun a w => (upd (upd H2 p (.tup [.str (wAt l j).1, (wAt l j).2.1, .int ((j : Int) + 1)])) sA (.lst (as.map V.ref ++ [V.ref p]))) a = some (.tup (w3V w))) (as ++ [p]) (ws ++ [((wAt l j).1, (wAt l j).2.1, j + 1)]) := Paired.snoc (Paired.mapP hP fun a w h => hN a _ h) (by rw [upd_ne npA.symm, upd_same]; rfl)
        have hap : as.map V.ref ++ [V.ref p] = (as ++ [p]).map V.ref := by rw [List.map_append]; rfl
        refine ⟨_, rfl, rfl, _, _, rfl, rfl, _, rfl, ?_⟩
        refine ite2 (fun e4 => ?_) (fun e4 => ?_)
        · have hb : isBad (wAt l j).1 = true := e4
          refine ⟨_, rfl, _, l.length, rfl, ⟨by rw [S_len]; exact szB (by omega), by rw [S_len]⟩, ⟨l.length, as ++ [p], ws ++ [((wAt l j).1, (wAt l j).2.1, j + 1)], _, _, _, rfl, s3, by rw [upd_same, hap], by rw [List.length_append, List.length_singleton]; omega, by rw [List.length_append, List.length_singleton]; omega, hP2, fun r hr2 => ?_⟩, ?_⟩
          · cases hr2 with
            | done _ => rw [List.append_nil]; exact hL _ (.bad gc e2' hb)
            | blank h _ => exact absurd (List.getElem?_eq_some_iff.mp h).1 (Nat.lt_irrefl _)
            | word h _ _ _ => exact absurd (List.getElem?_eq_some_iff.mp h).1 (Nat.lt_irrefl _)
            | bad h _ _ => exact absurd (List.getElem?_eq_some_iff.mp h).1 (Nat.lt_irrefl _)
          · show l.length - ((l.length : Int)).toNat < l.length - ((j : Int)).toNat
            omega
        · have hb : isBad (wAt l j).1 = false := Bool.eq_false_iff.mpr e4
          refine ⟨_, rfl, ⟨(wAt l j).2.2, as ++ [p], ws ++ [((wAt l j).1, (wAt l j).2.1, j + 1)], _, _, _, rfl, s3, by rw [upd_same, hap], by rw [List.length_append, List.length_singleton]; omega, by rw [List.length_append, List.length_singleton]; omega, hP2, fun r hr2 => ?_⟩, ?_⟩
          · rw [List.append_assoc]
            exact hL _ (.word gc e2' hb hr2)
          · show l.length - (((wAt l j).2.2 : Int)).toNat < l.length - ((j : Int)).toNat
            omega
    · have e1' : ¬ (j : Int) < (l.length : Int) := of_decide_eq_false (Bool.eq_false_iff.mpr e1)
      have hw := hL [] (.done (by omega))
      rw [List.append_nil] at hw
      refine ⟨_, rfl, sA, _, rfl, .inl ⟨SqL.of hA, fun t nt => ?_⟩⟩
      refine q _ t as ws (same_new s1 nt _) upd_same (Paired.mapP hP fun a w h => ?_) hw
      rw [upd_ne (ne_of_none h nt)]
      exact h
  · rintro σ' H' Q1 Q2 hq ⟨v, hv, x, hx, y, n, e, hn, i1, j1, e1, e2, k, e3, h⟩
    exact ⟨v, hv, x, hx, y, n, e, hn, i1, j1, e1, e2, k, e3, hq _ _ h⟩

end
end Vf

set_option maxRecDepth 100000
set_option maxHeartbeats 4000000
namespace Vf
open PySem PySem.Spec PyProof.Rows L2 SX
section
variable {P : Program} {w : World} {K : PySem.W.Frag} {mg : Str → Option Value} {base : Heap}
theorem tg_not {rs r1 : List W3} {n : Bool} (h : NgS rs n r1) (tg : ∀ w ∈ rs, TokG w) : ∀ w ∈ r1, TokG w := by
  rcases h with ⟨_, c, e⟩ | ⟨_, e, _⟩
  · subst e; exact fun w hw => tg w (List.mem_cons_of_mem _ hw)
  · subst e; exact tg
theorem tg_pl {rs r : List W3} {o : Option Pt} (h : PlP rs o r) (tg : ∀ w ∈ rs, TokG w) : ∀ w ∈ r, TokG w := by
  cases h with
  | wd _ => exact fun w hw => tg w (List.mem_cons_of_mem _ (List.mem_cons_of_mem _ hw))
  | wdX _ _ => exact fun w hw => tg w (List.mem_cons_of_mem _ hw)
  | nu _ => exact fun w hw => tg w (List.mem_cons_of_mem _ (List.mem_cons_of_mem _ hw))
  | nuX _ _ => exact fun w hw => tg w (List.mem_cons_of_mem _ hw)
  | ba _ => exact fun w hw => tg w (List.mem_cons_of_mem _ hw)
  | no _ => exact tg
theorem PrAt.sx {r a : Addr} {H H' : Hp} {p : Pt} {CR : Addr} {dn rs : List W3} {e : Nat} (h : PrAt H a p) (rd : RdAt CR H r dn rs e) (s : SmX r H H') : PrAt H' a p := by
  obtain ⟨dx, wt, as, h1, _⟩ := rd
  exact s _ _ (fun z => by rw [PrAt, z, h1] at h; cases h) h
theorem PrAt.sm {a : Addr} {H H' : Hp} {p : Pt} (h : PrAt H a p) (s : Same H H') : PrAt H' a p := s _ _ h
theorem in_to {v : V} (h : ∃ s, v = .str s) (n : v ≠ .str "to") : inV v [.str "to"] = false := by
  obtain ⟨s, rfl⟩ := h
  have : ("to" : Str) ≠ s := fun z => n (by rw [z])
  simp [inV, eqV, this]
theorem ok_linetestForm {f : Addr} {fd : FuncData} {CR CT : Addr} (A0 : CaR K CR) (F : C8.Def K mg "linetest_form" s_linetestForm f fd) (b : Binds K fd ["words"] []) (T : Tx K w mg)
    (C_WordReader_skipped : C8.Met P w K mg base 2 CR "skipped" (sp_WordReader_skipped CR) []) (C_plainForm : CalX P w K mg base 6 "plain_form" (sp_plainForm K CR CT)) (C_WordReader_chosen : MetX P w K mg base 4 CR "chosen" (sp_WordReader_chosen K CR CT)) :
    CalX P w K mg base 7 "linetest_form" (sp_linetestForm K CR CT) := by
  refine calX F b sc_linetestForm (fun vs H Q E h => ?_) (fun cdv A outer s H vs Q E hr h => ?_)
  · obtain ⟨r, dn, rs, e, o, rs', rfl, _⟩ := h; rfl
  have hu := hu_of hr
  refine ⟨_, (C8.pss_cut (ps_set (i := 1) sc_linetestForm.nd rfl (Or.inl rfl) (C8.pe_mt C_WordReader_skipped hr (by decide) (pv 0) (pa_cons pe_str pa_nil)))
      (pss_cons (ps_if (pt_not (pt_val (C8.pe_mt C_WordReader_skipped hr (by decide) (pv 0) (pa_cons pe_str pa_nil))))
      (pss_one (ps_ret (pe_tup (pa_cons (pv 1) (pa_cons (pe_tup (pa_cons (pe_cx C_plainForm hr (by decide) rfl (takes_of rfl rfl rfl rfl) (pa_cons (pv 0) pa_nil)) pa_nil)) pa_nil)))))
      pss_nil)
      (pss_cons (ps_set (i := 2) sc_linetestForm.nd rfl (Or.inl rfl) (pe_cx C_plainForm hr (by decide) rfl (takes_of rfl rfl rfl rfl) (pa_cons (pv 0) pa_nil)))
      (pss_cons (ps_expr (pe_mx C_WordReader_chosen hr (by decide) (takes_of rfl rfl rfl rfl) (pv 0) (pa_cons (pe_tup (pa_cons pe_str pa_nil)) pa_nil)))
      (pss_one (ps_ret (pe_tup (pa_cons (pv 1) (pa_cons (pe_tup (pa_cons (pv 2) (pa_cons (pe_cx C_plainForm hr (by decide) rfl (takes_of rfl rfl rfl rfl) (pa_cons (pv 0) pa_nil)) pa_nil))) pa_nil))))))))), ?_⟩
  obtain ⟨r, dn, rs, e, o, rs', rfl, rd, tg, fm, qo, qe⟩ := h
  obtain ⟨dx, wt, as, h1, _⟩ := id rd
  have tl : ∀ {x : W3} {r : List W3}, (∀ w ∈ x :: r, TokG w) → ∀ w ∈ r, TokG w := fun t w hw => t w (List.mem_cons_of_mem _ hw)
  cases fm with
  | @pl r1 _ n o0 hn hf h2 =>
    refine ⟨fun σ' H1 => ∃ dn1, σ' = [some (.ref r), some (.bl n), none] ∧ SmX r H H1 ∧ RdAt CR H1 r dn1 r1 e, ?_, ?_⟩
    · refine ⟨_, rfl, r, dx, _, rfl, h1, rfl, r, dn, rs, e, "not", rfl, rd, tg, ?_⟩
      rcases hn with ⟨rfl, c', rfl⟩ | ⟨rfl, rfl, hne⟩
      · exact .inl ⟨c', _, rfl, fun H1 s1 rd1 => ⟨_, rfl, s1, rd1⟩⟩
      · exact .inr ⟨hne, fun H1 s1 => ⟨_, rfl, SmX.of s1, rd.sm s1⟩⟩
    rintro σ' H1 ⟨dn1, rfl, s1, rd1⟩
    obtain ⟨dx1, wt1, as1, g1, _⟩ := id rd1
    have tg1 := tg_not hn tg
    refine ⟨_, rfl, r, dx1, _, rfl, g1, rfl, r, dn1, r1, e, "from", rfl, rd1, tg1, .inr ⟨hf, fun H2 s2 => ⟨false, rfl, ify rfl ?_⟩⟩⟩
    refine ⟨_, rfl, _, rfl, r, dn1, r1, e, o0, rs', rfl, rd1.sm s2, tg1, h2, fun p hp H3 a dn' s3 rd3 pa => ⟨sz_1, fun p1 np1 => ⟨sz_2, fun p2 np2 => ?_⟩⟩, fun ho => ?_⟩
    · have s4 := same_new (Same.refl H3) np1 (.tup [.ref a])
      have s5 := same_new (Same.refl (upd H3 p1 (.tup [.ref a]))) np2 (.tup [.bl n, .ref p1])
      refine qo (n, [p]) (by rw [hp]; rfl) _ p2 _ ((((s1.trans (SmX.of s2)).trans s3).trans (SmX.of s4)).trans (SmX.of s5)) ((rd3.sm s4).sm s5) ?_
      exact ⟨p1, [a], upd_same, s5 _ _ upd_same, .cons ((pa.sm s4).sm s5) .nil⟩
    · exact (qe (by rw [ho]; rfl)).go (s1.trans (SmX.of s2))
  | @r1 r2 _ n c hn hp2 =>
    refine ⟨fun σ' H1 => ∃ dn1, σ' = [some (.ref r), some (.bl n), none] ∧ SmX r H H1 ∧ RdAt CR H1 r dn1 (tk3 "name" (.str "from") c :: r2) e, ?_, ?_⟩
    · refine ⟨_, rfl, r, dx, _, rfl, h1, rfl, r, dn, rs, e, "not", rfl, rd, tg, ?_⟩
      rcases hn with ⟨rfl, c', rfl⟩ | ⟨rfl, rfl, hne⟩
      · exact .inl ⟨c', _, rfl, fun H1 s1 rd1 => ⟨_, rfl, s1, rd1⟩⟩
      · exact .inr ⟨hne, fun H1 s1 => ⟨_, rfl, SmX.of s1, rd.sm s1⟩⟩
    rintro σ' H1 ⟨dn1, rfl, s1, rd1⟩
    obtain ⟨dx1, wt1, as1, g1, _⟩ := id rd1
    have tg1 := tg_not hn tg
    refine ⟨_, rfl, r, dx1, _, rfl, g1, rfl, r, dn1, _, e, "from", rfl, rd1, tg1, .inl ⟨c, r2, rfl, fun H2 s2 rd2 => ⟨true, rfl, ifn rfl ?_⟩⟩⟩
    exact ⟨_, rfl, r, _, r2, e, none, rs', rfl, rd2, tl tg1, hp2, fun p hp => (by cases hp), fun _ => (qe rfl).go (s1.trans s2)⟩
  | @r2 r2 _ n c p hn hp2 ht =>
    refine ⟨fun σ' H1 => ∃ dn1, σ' = [some (.ref r), some (.bl n), none] ∧ SmX r H H1 ∧ RdAt CR H1 r dn1 (tk3 "name" (.str "from") c :: r2) e, ?_, ?_⟩
    · refine ⟨_, rfl, r, dx, _, rfl, h1, rfl, r, dn, rs, e, "not", rfl, rd, tg, ?_⟩
      rcases hn with ⟨rfl, c', rfl⟩ | ⟨rfl, rfl, hne⟩
      · exact .inl ⟨c', _, rfl, fun H1 s1 rd1 => ⟨_, rfl, s1, rd1⟩⟩
      · exact .inr ⟨hne, fun H1 s1 => ⟨_, rfl, SmX.of s1, rd.sm s1⟩⟩
    rintro σ' H1 ⟨dn1, rfl, s1, rd1⟩
    obtain ⟨dx1, wt1, as1, g1, _⟩ := id rd1
    have tg1 := tg_not hn tg
    refine ⟨_, rfl, r, dx1, _, rfl, g1, rfl, r, dn1, _, e, "from", rfl, rd1, tg1, .inl ⟨c, r2, rfl, fun H2 s2 rd2 => ⟨true, rfl, ifn rfl ?_⟩⟩⟩
    refine ⟨_, rfl, r, _, r2, e, some p, rs', rfl, rd2, tl tg1, hp2, fun p' hp H3 a dn' s3 rd3 pa => ?_, fun ho => (by cases ho)⟩
    obtain ⟨dx3, wt3, as3, g3, _⟩ := id rd3
    refine ⟨_, rfl, r, dx3, _, rfl, g3, rfl, sz_1, fun p1 np1 => ?_⟩
    have s4 := same_new (Same.refl H3) np1 (.tup [.str "to"])
    exact ⟨r, p1, _, rs', e, [.str "to"], rfl, rd3.sm s4, tg_pl hp2 (tl tg1), upd_same, (fun x hx => ⟨"to", List.mem_singleton.mp hx⟩), .inr ⟨in_to (cm_str (tg_pl hp2 (tl tg1))) ht, (qe rfl).go (((s1.trans s2).trans s3).trans (SmX.of s4))⟩⟩
  | @r3 r2 r3 _ n c d p o0 hn hp2 hp3 =>
    refine ⟨fun σ' H1 => ∃ dn1, σ' = [some (.ref r), some (.bl n), none] ∧ SmX r H H1 ∧ RdAt CR H1 r dn1 (tk3 "name" (.str "from") c :: r2) e, ?_, ?_⟩
    · refine ⟨_, rfl, r, dx, _, rfl, h1, rfl, r, dn, rs, e, "not", rfl, rd, tg, ?_⟩
      rcases hn with ⟨rfl, c', rfl⟩ | ⟨rfl, rfl, hne⟩
      · exact .inl ⟨c', _, rfl, fun H1 s1 rd1 => ⟨_, rfl, s1, rd1⟩⟩
      · exact .inr ⟨hne, fun H1 s1 => ⟨_, rfl, SmX.of s1, rd.sm s1⟩⟩
    rintro σ' H1 ⟨dn1, rfl, s1, rd1⟩
    obtain ⟨dx1, wt1, as1, g1, _⟩ := id rd1
    have tg1 := tg_not hn tg
    refine ⟨_, rfl, r, dx1, _, rfl, g1, rfl, r, dn1, _, e, "from", rfl, rd1, tg1, .inl ⟨c, r2, rfl, fun H2 s2 rd2 => ⟨true, rfl, ifn rfl ?_⟩⟩⟩
    refine ⟨_, rfl, r, _, r2, e, some p, _, rfl, rd2, tl tg1, hp2, fun p' hp H3 a dn' s3 rd3 pa => ?_, fun ho => (by cases ho)⟩
    cases hp
    obtain ⟨dx3, wt3, as3, g3, _⟩ := id rd3
    have tg3 := tg_pl hp2 (tl tg1)
    refine ⟨_, rfl, r, dx3, _, rfl, g3, rfl, sz_1, fun p1 np1 => ?_⟩
    have s4 := same_new (Same.refl H3) np1 (.tup [.str "to"])
    refine ⟨r, p1, _, _, e, [.str "to"], rfl, rd3.sm s4, tg3, upd_same, (fun x hx => ⟨"to", List.mem_singleton.mp hx⟩), .inl ⟨"to", d, r3, rfl, rfl, fun H5 s5 rd5 => ?_⟩⟩
    have pa5 : PrAt H5 a p := (pa.sm s4).sx (rd3.sm s4) s5
    refine ⟨_, rfl, _, rfl, _, rfl, r, _, r3, e, o0, rs', rfl, rd5, tl tg3, hp3, fun p' hp H6 a' dn6 s6 rd6 pa6 => ⟨sz_2, fun q1 nq1 => ⟨sz_2, fun q2 nq2 => ?_⟩⟩, fun ho => ?_⟩
    · have t1 := same_new (Same.refl H6) nq1 (.tup [.ref a, .ref a'])
      have t2 := same_new (Same.refl (upd H6 q1 (.tup [.ref a, .ref a']))) nq2 (.tup [.bl n, .ref q1])
      have sx := ((((s1.trans s2).trans s3).trans (SmX.of s4)).trans s5).trans s6
      refine qo (n, [p, p']) (by rw [hp]; rfl) _ q2 _ ((sx.trans (SmX.of t1)).trans (SmX.of t2)) ((rd6.sm t1).sm t2) ?_
      exact ⟨q1, [a, a'], upd_same, t2 _ _ upd_same, .cons (((pa5.sx rd5 s6).sm t1).sm t2) (.cons ((pa6.sm t1).sm t2) .nil)⟩
    · exact (qe (by rw [ho]; rfl)).go (((((s1.trans s2).trans s3).trans (SmX.of s4)).trans s5))

end
end Vf

set_option maxRecDepth 100000
set_option maxHeartbeats 4000000
namespace Vf
open PySem PySem.Spec PyProof.Rows L2 SX
section
variable {P : Program} {w : World} {K : PySem.W.Frag} {mg : Str → Option Value} {base : Heap}
theorem l8s : ∀ x ∈ l8, ∃ s, x = V.str s := by
  intro x hx
  simp only [l8, List.mem_cons, List.not_mem_nil, or_false] at hx
  rcases hx with h | h | h | h | h | h | h | h <;> exact ⟨_, h⟩
theorem ok_plainForm {f : Addr} {fd : FuncData} {CR CT : Addr} (A0 : CaR K CR) (F : C8.Def K mg "plain_form" s_plainForm f fd) (b : Binds K fd ["words"] []) (T : Tx K w mg)
    (C_WordReader_chosen : MetX P w K mg base 4 CR "chosen" (sp_WordReader_chosen K CR CT)) (C_WordReader_quoted : MetX P w K mg base 5 CR "quoted" (sp_WordReader_quoted CR CT)) (C_WordReader_whole : MetX P w K mg base 5 CR "whole" (sp_WordReader_whole CR CT)) :
    CalX P w K mg base 6 "plain_form" (sp_plainForm K CR CT) := by
  refine calX F b sc_plainForm (fun vs H Q E h => ?_) (fun cdv A outer s H vs Q E hr h => ?_)
  · obtain ⟨r, dn, rs, e, o, rs', rfl, _⟩ := h; rfl
  have hu := hu_of hr
  refine ⟨_, (pss_cons (ps_set (i := 1) sc_plainForm.nd rfl (Or.inl rfl) (pe_mx C_WordReader_chosen hr (by decide) (takes_of rfl rfl rfl rfl) (pv 0) (pa_cons (pe_tup (StX.pa_star (C8.pe_gc rfl (Classical.choose_spec T.g_WORD_TESTS).1) (StX.pa_star (C8.pe_gc rfl (Classical.choose_spec T.g_NUMBER_TESTS).1) (StX.pa_star (C8.pe_gc rfl (Classical.choose_spec T.g_BARE_TESTS).1) pa_nil)))) pa_nil)))
      (pss_cons (ps_if (pt_cmpR op_in_seq (pv 1) (C8.pe_gc rfl (Classical.choose_spec T.g_WORD_TESTS).1) rfl)
      (pss_one (ps_ret (pe_tup (pa_cons (pv 1) (pa_cons (pe_mx0 C_WordReader_quoted hr (by decide) (takes_of rfl rfl rfl rfl) (pv 0)) pa_nil)))))
      pss_nil)
      (pss_cons (ps_if (pt_cmpR op_in_seq (pv 1) (C8.pe_gc rfl (Classical.choose_spec T.g_NUMBER_TESTS).1) rfl)
      (pss_one (ps_ret (pe_tup (pa_cons (pv 1) (pa_cons (pe_mx0 C_WordReader_whole hr (by decide) (takes_of rfl rfl rfl rfl) (pv 0)) pa_nil)))))
      pss_nil)
      (pss_one (ps_ret (pe_tup (pa_cons (pv 1) (pa_cons pe_non pa_nil)))))))), ?_⟩
  obtain ⟨r, dn, rs, e, o, rs', rfl, rd, tg, pl, qo, qe⟩ := h
  have W4 := (Classical.choose_spec T.g_WORD_TESTS).2
  have W2 := (Classical.choose_spec T.g_NUMBER_TESTS).2
  have WB := (Classical.choose_spec T.g_BARE_TESTS).2
  obtain ⟨dx, wt, as, h1, _⟩ := id rd
  refine ⟨_, rfl, r, dx, _, rfl, h1, rfl, ?_⟩
  refine ⟨_, _, rfl, .inl (W4 H), _, _, rfl, .inl (W2 H), _, _, rfl, .inl (WB H), szB (by decide), fun tp htp => ?_⟩
  have s0 : Same H (upd H tp (.tup l8)) := same_new (Same.refl H) htp _
  have rd0 := rd.sm s0
  have tl : ∀ {x : W3} {r : List W3}, (∀ w ∈ x :: r, TokG w) → ∀ w ∈ r, TokG w := fun t w hw => t w (List.mem_cons_of_mem _ hw)
  cases pl with
  | @wd k v c d _ h =>
    refine ⟨r, tp, dn, _, e, l8, rfl, rd0, tg, upd_same, l8s, .inl ⟨k, c, _, rfl, (cl_w h).1, fun H1 s1 rd1 => ?_⟩⟩
    obtain ⟨dx1, wt1, as1, g1, _⟩ := id rd1
    refine ⟨_, rfl, _, l4, rfl, .inr (W4 H1), rfl, by decide, _, rfl, ?_⟩
    refine ify (cl_w h).2.1 ?_
    refine ⟨_, rfl, _, rfl, r, dx1, _, rfl, g1, rfl, r, _, _, e, rfl, rd1, tl tg, .inl ⟨v, d, _, rfl, fun H2 s2 rd2 => ⟨sz_2, fun p np => ?_⟩⟩⟩
    have s3 : Same H2 (upd H2 p (.tup [.str k, v])) := same_new (Same.refl H2) np _
    exact qo _ rfl _ p _ ((((SmX.of s0).trans s1).trans s2).trans (SmX.of s3)) (rd2.sm s3) upd_same
  | @wdX k c _ h h2 =>
    refine ⟨r, tp, dn, _, e, l8, rfl, rd0, tg, upd_same, l8s, .inl ⟨k, c, _, rfl, (cl_w h).1, fun H1 s1 rd1 => ?_⟩⟩
    obtain ⟨dx1, wt1, as1, g1, _⟩ := id rd1
    refine ⟨_, rfl, _, l4, rfl, .inr (W4 H1), rfl, by decide, _, rfl, ?_⟩
    refine ify (cl_w h).2.1 ?_
    exact ⟨_, rfl, _, rfl, r, dx1, _, rfl, g1, rfl, r, _, _, e, rfl, rd1, tl tg, .inr ⟨h2, (qe rfl).go ((SmX.of s0).trans s1)⟩⟩
  | @nu k v c d _ h =>
    refine ⟨r, tp, dn, _, e, l8, rfl, rd0, tg, upd_same, l8s, .inl ⟨k, c, _, rfl, (cl_n h).1, fun H1 s1 rd1 => ?_⟩⟩
    obtain ⟨dx1, wt1, as1, g1, _⟩ := id rd1
    refine ⟨_, rfl, _, l4, rfl, .inr (W4 H1), rfl, by decide, _, rfl, ?_⟩
    refine ifn (cl_n h).2.1 ?_
    refine ⟨_, rfl, _, l2, rfl, .inr (W2 H1), rfl, by decide, _, rfl, ?_⟩
    refine ify (cl_n h).2.2.1 ?_
    refine ⟨_, rfl, _, rfl, r, dx1, _, rfl, g1, rfl, r, _, _, e, rfl, rd1, tl tg, .inl ⟨v, d, _, rfl, fun H2 s2 rd2 => ⟨sz_2, fun p np => ?_⟩⟩⟩
    have s3 : Same H2 (upd H2 p (.tup [.str k, v])) := same_new (Same.refl H2) np _
    exact qo _ rfl _ p _ ((((SmX.of s0).trans s1).trans s2).trans (SmX.of s3)) (rd2.sm s3) upd_same
  | @nuX k c _ h h2 =>
    refine ⟨r, tp, dn, _, e, l8, rfl, rd0, tg, upd_same, l8s, .inl ⟨k, c, _, rfl, (cl_n h).1, fun H1 s1 rd1 => ?_⟩⟩
    obtain ⟨dx1, wt1, as1, g1, _⟩ := id rd1
    refine ⟨_, rfl, _, l4, rfl, .inr (W4 H1), rfl, by decide, _, rfl, ?_⟩
    refine ifn (cl_n h).2.1 ?_
    refine ⟨_, rfl, _, l2, rfl, .inr (W2 H1), rfl, by decide, _, rfl, ?_⟩
    refine ify (cl_n h).2.2.1 ?_
    exact ⟨_, rfl, _, rfl, r, dx1, _, rfl, g1, rfl, r, _, _, e, rfl, rd1, tl tg, .inr ⟨h2, (qe rfl).go ((SmX.of s0).trans s1)⟩⟩
  | @ba k c _ h =>
    refine ⟨r, tp, dn, _, e, l8, rfl, rd0, tg, upd_same, l8s, .inl ⟨k, c, _, rfl, (cl_b h).1, fun H1 s1 rd1 => ?_⟩⟩
    refine ⟨_, rfl, _, l4, rfl, .inr (W4 H1), rfl, by decide, _, rfl, ?_⟩
    refine ifn (cl_b h).2.1 ?_
    refine ⟨_, rfl, _, l2, rfl, .inr (W2 H1), rfl, by decide, _, rfl, ?_⟩
    refine ifn (cl_b h).2.2.1 ?_
    refine ⟨_, rfl, sz_2, fun p np => ?_⟩
    have s3 : Same H1 (upd H1 p (.tup [.str k, .non])) := same_new (Same.refl H1) np _
    exact qo _ rfl _ p _ (((SmX.of s0).trans s1).trans (SmX.of s3)) (rd1.sm s3) upd_same
  | no h =>
    exact ⟨r, tp, dn, _, e, l8, rfl, rd0, tg, upd_same, l8s, .inr ⟨h, (qe rfl).go (SmX.of s0)⟩⟩

end
end Vf

set_option maxRecDepth 100000
set_option maxHeartbeats 4000000
namespace Vf
open PySem PySem.Spec PyProof.Rows L2 SX
section
variable {P : Program} {w : World} {K : PySem.W.Frag} {mg : Str → Option Value} {base : Heap}
theorem okp3 {p : Pt} (h : OkP p) : (∃ k t, p = (k, .str (S t)) ∧ isW k ∧ t.length ≤ 6 ∧ ∀ c ∈ t, c ∈ signsL ∧ c ≠ 10) ∨ (∃ (k : Str) (m : Nat), p = (k, .int (m : Int)) ∧ (k = "short" ∨ k = "number") ∧ m ≤ 40) ∨ ∃ k : Str, p = (k, .non) ∧ (k = "all" ∨ k = "last") := by
  cases h with
  | @wd k t h h1 h2 => exact .inl ⟨k, t, rfl, h, h1, h2⟩
  | @sh m h => exact .inr (.inl ⟨_, m, rfl, .inl rfl, h⟩)
  | @nu m h1 h2 => exact .inr (.inl ⟨_, m, rfl, .inr rfl, by omega⟩)
  | @ba k h => exact .inr (.inr ⟨k, rfl, h⟩)
theorem kl6 {k : Str} (h : isW k ∨ (k = "short" ∨ k = "number") ∨ k = "all" ∨ k = "last") : (k6 k).length ≤ 6 := by
  rcases h with (h | h | h | h) | (h | h) | h | h <;> subst h <;> decide +kernel
def ngL (n : Bool) : List Nat := if n = true then [110, 111, 116, 32] else []
theorem twt_pl (p : Pt) (n : Bool) : TL.joinL [32] (twT (.pl p n)) = ngL n ++ TL.joinL [32] ((pW p).map (·.2.2)) := by
  obtain ⟨k, v⟩ := p
  have e : k6 ("not" : Str) = [110, 111, 116] := by decide +kernel
  cases n with
  | true =>
    show k6 "not" ++ ([32] ++ _) = _
    rw [e]
    rfl
  | false => rfl
theorem joinL_app (s : List Nat) : ∀ (a b : List (List Nat)), a ≠ [] → b ≠ [] → TL.joinL s (a ++ b) = TL.joinL s a ++ (s ++ TL.joinL s b)
  | [], _, h, _ => absurd rfl h
  | [x], [], _, h => absurd rfl h
  | [x], y :: b, _, _ => rfl
  | x :: y :: r, b, _, h => by
    show x ++ (s ++ TL.joinL s ((y :: r) ++ b)) = _
    rw [joinL_app s (y :: r) b (by simp) h]
    show _ = x ++ (s ++ TL.joinL s (y :: r)) ++ _
    simp only [List.append_assoc]
theorem twt_rg (p p' : Pt) (n : Bool) : TL.joinL [32] (twT (.rg p p' n)) = ngL n ++ ([102, 114, 111, 109, 32] ++ (TL.joinL [32] (twT (.pl p false)) ++ ([32, 116, 111, 32] ++ TL.joinL [32] (twT (.pl p' false))))) := by
  have e : k6 ("not" : Str) = [110, 111, 116] := by decide +kernel
  have e2 : k6 ("from" : Str) = [102, 114, 111, 109] := by decide +kernel
  have e3 : k6 ("to" : Str) = [116, 111] := by decide +kernel
  have h : TL.joinL [32] (k6 "from" :: (twT (.pl p false) ++ (k6 "to" :: twT (.pl p' false)))) = [102, 114, 111, 109, 32] ++ (TL.joinL [32] (twT (.pl p false)) ++ ([32, 116, 111, 32] ++ TL.joinL [32] (twT (.pl p' false)))) := by
    have a : ∀ p : Pt, twT (.pl p false) ≠ [] := fun p => by show k6 p.1 :: _ ≠ []; simp
    rw [show k6 "from" :: (twT (.pl p false) ++ (k6 "to" :: twT (.pl p' false))) = [k6 "from"] ++ (twT (.pl p false) ++ ([k6 "to"] ++ twT (.pl p' false))) from rfl]
    rw [joinL_app _ _ _ (by simp) (by simp [a p]), joinL_app _ _ _ (a p) (by simp), joinL_app _ _ _ (by simp) (a p')]
    show k6 "from" ++ ([32] ++ (_ ++ ([32] ++ (k6 "to" ++ ([32] ++ _))))) = _
    rw [e2, e3]
    rfl
  have t : twT (.rg p p' n) = (ngW n).map (·.2.2) ++ (k6 "from" :: (twT (.pl p false) ++ (k6 "to" :: twT (.pl p' false)))) := by
    show (ngW n ++ (nW "from" :: (pW p ++ (nW "to" :: pW p')))).map (·.2.2) = _
    rw [List.map_append, List.map_cons, List.map_append, List.map_cons]
    rfl
  rw [t]
  cases n with
  | true =>
    show k6 "not" ++ ([32] ++ TL.joinL [32] _) = _
    rw [h, e]
    rfl
  | false => exact h
theorem pl_len' {p : Pt} (hp : OkP p) : (TL.joinL [32] (twT (.pl p false))).length ≤ 100 := by
  rcases okp3 hp with ⟨k, t, rfl, h, h1, h2⟩ | ⟨k, m, rfl, h, h1⟩ | ⟨k, rfl, h⟩
  · have := kl6 (.inl h)
    have := quote_len t
    show (k6 k ++ ([32] ++ quoteL t)).length ≤ 100
    simp only [List.length_append, List.length_cons, List.length_nil]
    omega
  · have := kl6 (.inr (.inl h))
    have nm := TL.numL_len (n := m) (k := 2) (by decide) (by omega)
    show (k6 k ++ ([32] ++ TL.numL m)).length ≤ 100
    simp only [List.length_append, List.length_cons, List.length_nil]
    omega
  · have := kl6 (.inr (.inr h))
    show (k6 k).length ≤ 100
    omega
theorem ok_linetestTextP {f : Addr} {fd : FuncData} (F : C8.Def K mg "linetest_text" s_linetestText f fd) (b : Binds K fd ["test"] []) (T : Tx K w mg) {CL : Addr} (A0 : Ca K CL) (C_quotedText : C8.Cal P w K mg base 1 "quoted_text" sp_quotedText []) : C8.Cal P w K mg base 2 "linetest_text" (sp_linetestTextP CL) [] := by
  refine C8.cal0 F b .nil sc_linetestText (fun vs H Q E h => ?_) (fun cdv A outer s H vs Q E hr h => ?_)
  · obtain ⟨o, p, n, rfl, _⟩ := h; rfl
  have hu := hu_of hr
  refine ⟨_, (C8.pss_cut (ps_set (i := 1) sc_linetestText.nd rfl (Or.inl rfl) (pe_ifExp (pt_val (pe_fld (pv 0) rfl)) pe_str pe_str))
      (pss_cons (ps_if (pt_cmpR op_eq (pe_fld (pv 0) rfl) pe_str (nomark _))
      (pss_one ps_never)
      pss_nil)
      (pss_cons (ps_if (pt_cmpR op_in_seq (pe_fld (pv 0) rfl) (C8.pe_gc rfl (Classical.choose_spec T.g_WORD_TESTS).1) rfl)
      (pss_one (ps_ret (pe_joined (PJ.cons (pe_fmt (pv 1)) (PJ.cons (pe_fmt (pe_fld (pv 0) rfl)) (PJ.cons pe_str (PJ.cons (pe_fmt (C8.pe_c C_quotedText hr (by decide) rfl (pa_cons (pe_fld (pv 0) rfl) pa_nil))) PJ.nil)))))))
      pss_nil)
      (pss_cons (ps_if (pt_cmpR op_in_seq (pe_fld (pv 0) rfl) (C8.pe_gc rfl (Classical.choose_spec T.g_NUMBER_TESTS).1) rfl)
      (pss_one (ps_ret (pe_joined (PJ.cons (pe_fmt (pv 1)) (PJ.cons (pe_fmt (pe_fld (pv 0) rfl)) (PJ.cons pe_str (PJ.cons (pe_fmt (pe_fld (pv 0) rfl)) PJ.nil)))))))
      pss_nil)
      (pss_one (ps_ret (pe_op op_add_str (pv 1) (pe_fld (pv 0) rfl)))))))), ?_⟩
  obtain ⟨o, p, n, rfl, ⟨dx, ho⟩, op, q⟩ := h
  have cl := A0.i.cl
  have W4 := (Classical.choose_spec T.g_WORD_TESTS).2
  have W2 := (Classical.choose_spec T.g_NUMBER_TESTS).2
  obtain ⟨kk, ek⟩ : ∃ kk, p.1 = S kk := ⟨k6 p.1, (S_k p.1).symm⟩
  have nl : (ngL n).length ≤ 4 := by cases n <;> decide
  have hE : Str.empty = S [] := rfl
  have hB : (" " : Str) = S [32] := by decide +kernel
  refine ⟨fun σ' H' => σ' = [some (.ref o), some (.str (S (ngL n)))] ∧ H' = H, ?_, ?_⟩
  · refine ⟨_, rfl, o, CL, dx, _, _, rfl, ho, cl, A0.a5, rfl, n, rfl, ?_⟩
    cases n with
    | true => exact ifT ⟨by rw [show S (ngL true) = ("not " : Str) by decide +kernel]; rfl, rfl⟩
    | false => exact ifF ⟨by rw [show S (ngL false) = ("" : Str) by decide +kernel]; rfl, rfl⟩
  rintro σ' H' ⟨rfl, rfl⟩
  rw [twt_pl] at q
  refine ⟨_, rfl, o, CL, dx, _, _, rfl, ho, cl, A0.a1, rfl, rfl, _, rfl, ifn (decide_eq_false fun z => op.nf (V.str.inj z)) ?_⟩
  refine ⟨_, rfl, o, CL, dx, _, _, rfl, ho, cl, A0.a1, rfl, _, l4, rfl, .inr (W4 _), rfl, by decide, _, rfl, ?_⟩
  rcases okp3 op with ⟨k, t, rfl, h, h1, h2⟩ | ⟨k, m, rfl, h, h1⟩ | ⟨k, rfl, h⟩
  · obtain rfl : k = S kk := ek
    have kl : kk.length ≤ 6 := kl6 (.inl h)
    refine ify (cl_w h).2.1 ?_
    have ql := quote_len t
    refine ⟨_, rfl, .inl ⟨_, rfl, (by simp only [hE, hB, S_cat, S_len, List.length_append, List.length_nil, List.length_cons]; exact szB (by omega)), _, rfl, (by simp only [hE, hB, S_cat, S_len, List.length_append, List.length_nil, List.length_cons]; exact szB (by omega)), ?_⟩⟩
    refine ⟨_, rfl, o, CL, dx, _, _, rfl, ho, cl, A0.a1, rfl, .inl ⟨_, rfl, (by simp only [hE, hB, S_cat, S_len, List.length_append, List.length_nil, List.length_cons]; exact szB (by omega)), _, rfl, (by simp only [hE, hB, S_cat, S_len, List.length_append, List.length_nil, List.length_cons]; exact szB (by omega)), ?_⟩⟩
    refine ⟨_, rfl, (by simp only [hE, hB, S_cat, S_len, List.length_append, List.length_nil, List.length_cons]; exact szB (by omega)), ?_⟩
    refine ⟨_, rfl, o, CL, dx, _, _, rfl, ho, cl, A0.a2, rfl, t, rfl, by omega, fun H1 s1 => .inl ⟨_, rfl, (by simp only [hE, hB, S_cat, S_len, List.length_append, List.length_nil, List.length_cons]; exact szB (by omega)), _, rfl, (by simp only [hE, hB, S_cat, S_len, List.length_append, List.length_nil, List.length_cons]; exact szB (by omega)), ?_⟩⟩
    have := q H1 s1
    rw [show Str.empty ++ S (ngL n) ++ S kk ++ (" " : Str) ++ S (quoteL t) = S (ngL n ++ TL.joinL [32] ((pW (S kk, V.str (S t))).map (·.2.2))) by
      rw [hE, hB, S_cat, S_cat, S_cat, S_cat]
      show S _ = S (ngL n ++ (kk ++ ([32] ++ quoteL t)))
      simp only [List.append_assoc, List.nil_append]]
    exact this
  · obtain rfl : k = S kk := ek
    have kl : kk.length ≤ 6 := kl6 (.inr (.inl h))
    have nm := TL.numL_len (n := m) (k := 2) (by decide) (by omega)
    have hn : Str.ofString (toString ((m : Nat) : Int)) = S (TL.numL m) := num_S m
    refine ifn (cl_n h).2.1 ?_
    refine ⟨_, rfl, o, CL, dx, _, _, rfl, ho, cl, A0.a1, rfl, _, l2, rfl, .inr (W2 _), rfl, by decide, _, rfl, ?_⟩
    refine ify (cl_n h).2.2.1 ?_
    refine ⟨_, rfl, .inl ⟨_, rfl, (by simp only [hE, hB, S_cat, S_len, List.length_append, List.length_nil, List.length_cons]; exact szB (by omega)), _, rfl, (by simp only [hE, hB, S_cat, S_len, List.length_append, List.length_nil, List.length_cons]; exact szB (by omega)), ?_⟩⟩
    refine ⟨_, rfl, o, CL, dx, _, _, rfl, ho, cl, A0.a1, rfl, .inl ⟨_, rfl, (by simp only [hE, hB, S_cat, S_len, List.length_append, List.length_nil, List.length_cons]; exact szB (by omega)), _, rfl, (by simp only [hE, hB, S_cat, S_len, List.length_append, List.length_nil, List.length_cons]; exact szB (by omega)), ?_⟩⟩
    refine ⟨_, rfl, (by simp only [hE, hB, S_cat, S_len, List.length_append, List.length_nil, List.length_cons]; exact szB (by omega)), ?_⟩
    refine ⟨_, rfl, o, CL, dx, _, _, rfl, ho, cl, A0.a2, rfl, .inr ⟨_, rfl, by rw [Int.natAbs_natCast]; exact Nat.lt_of_le_of_lt (Nat.log2_le_self m) (by omega), _, rfl, ?_⟩⟩
    rw [hn]
    refine ⟨(by simp only [hE, hB, S_cat, S_len, List.length_append, List.length_nil, List.length_cons]; exact szB (by omega)), ?_⟩
    have := q _ (Same.refl _)
    rw [show Str.empty ++ S (ngL n) ++ S kk ++ (" " : Str) ++ S (TL.numL m) = S (ngL n ++ TL.joinL [32] ((pW (S kk, V.int (m : Int))).map (·.2.2))) by
      rw [hE, hB, S_cat, S_cat, S_cat, S_cat]
      show S _ = S (ngL n ++ (kk ++ ([32] ++ TL.numL m)))
      simp only [List.append_assoc, List.nil_append]]
    exact this
  · obtain rfl : k = S kk := ek
    have kl : kk.length ≤ 6 := kl6 (.inr (.inr h))
    refine ifn (cl_b h).2.1 ?_
    refine ⟨_, rfl, o, CL, dx, _, _, rfl, ho, cl, A0.a1, rfl, _, l2, rfl, .inr (W2 _), rfl, by decide, _, rfl, ?_⟩
    refine ifn (cl_b h).2.2.1 ?_
    refine ⟨_, rfl, _, rfl, o, CL, dx, _, _, rfl, ho, cl, A0.a1, rfl, _, _, rfl, rfl, (by simp only [hE, hB, S_cat, S_len, List.length_append, List.length_nil, List.length_cons]; exact szB (by omega)), ?_⟩
    have := q _ (Same.refl _)
    rw [S_cat]
    exact this
theorem ok_linetestText {f : Addr} {fd : FuncData} (F : C8.Def K mg "linetest_text" s_linetestText f fd) (b : Binds K fd ["test"] []) (T : Tx K w mg) {CL : Addr} (A0 : Ca K CL) (C_linetestText : C8.Cal P w K mg base 2 "linetest_text" (sp_linetestTextP CL) []) (C_quotedText : C8.Cal P w K mg base 1 "quoted_text" sp_quotedText []) : C8.Cal P w K mg base 3 "linetest_text" (sp_linetestText CL) [] := by
  refine C8.cal0 F b .nil sc_linetestText (fun vs H Q E h => ?_) (fun cdv A outer s H vs Q E hr h => ?_)
  · obtain ⟨o, t, rfl, _⟩ := h; rfl
  have hu := hu_of hr
  refine ⟨_, (C8.pss_cut (ps_set (i := 1) sc_linetestText.nd rfl (Or.inl rfl) (pe_ifExp (pt_val (pe_fld (pv 0) rfl)) pe_str pe_str))
      (pss_cons (ps_if (pt_cmpR op_eq (pe_fld (pv 0) rfl) pe_str (nomark _))
      (pss_one (ps_ret (pe_joined (PJ.cons (pe_fmt (pv 1)) (PJ.cons pe_str (PJ.cons (pe_fmt (C8.pe_c C_linetestText hr (by decide) rfl (pa_cons (pe_fld (pv 0) rfl) pa_nil))) (PJ.cons pe_str (PJ.cons (pe_fmt (C8.pe_c C_linetestText hr (by decide) rfl (pa_cons (pe_fld (pv 0) rfl) pa_nil))) PJ.nil))))))))
      pss_nil)
      (pss_cons (ps_if (pt_cmpR op_in_seq (pe_fld (pv 0) rfl) (C8.pe_gc rfl (Classical.choose_spec T.g_WORD_TESTS).1) rfl)
      (pss_one (ps_ret (pe_joined (PJ.cons (pe_fmt (pv 1)) (PJ.cons (pe_fmt (pe_fld (pv 0) rfl)) (PJ.cons pe_str (PJ.cons (pe_fmt (C8.pe_c C_quotedText hr (by decide) rfl (pa_cons (pe_fld (pv 0) rfl) pa_nil))) PJ.nil)))))))
      pss_nil)
      (pss_cons (ps_if (pt_cmpR op_in_seq (pe_fld (pv 0) rfl) (C8.pe_gc rfl (Classical.choose_spec T.g_NUMBER_TESTS).1) rfl)
      (pss_one (ps_ret (pe_joined (PJ.cons (pe_fmt (pv 1)) (PJ.cons (pe_fmt (pe_fld (pv 0) rfl)) (PJ.cons pe_str (PJ.cons (pe_fmt (pe_fld (pv 0) rfl)) PJ.nil)))))))
      pss_nil)
      (pss_one (ps_ret (pe_op op_add_str (pv 1) (pe_fld (pv 0) rfl)))))))), ?_⟩
  obtain ⟨o, tt, rfl, ts, op, q⟩ := h
  match tt, ts, op with
  | .pl p n, ⟨dx, ho⟩, op =>
    have cl := A0.i.cl
    have W4 := (Classical.choose_spec T.g_WORD_TESTS).2
    have W2 := (Classical.choose_spec T.g_NUMBER_TESTS).2
    obtain ⟨kk, ek⟩ : ∃ kk, p.1 = S kk := ⟨k6 p.1, (S_k p.1).symm⟩
    have nl : (ngL n).length ≤ 4 := by cases n <;> decide
    have hE : Str.empty = S [] := rfl
    have hB : (" " : Str) = S [32] := by decide +kernel
    refine ⟨fun σ' H' => σ' = [some (.ref o), some (.str (S (ngL n)))] ∧ H' = H, ?_, ?_⟩
    · refine ⟨_, rfl, o, CL, dx, _, _, rfl, ho, cl, A0.a5, rfl, n, rfl, ?_⟩
      cases n with
      | true => exact ifT ⟨by rw [show S (ngL true) = ("not " : Str) by decide +kernel]; rfl, rfl⟩
      | false => exact ifF ⟨by rw [show S (ngL false) = ("" : Str) by decide +kernel]; rfl, rfl⟩
    rintro σ' H' ⟨rfl, rfl⟩
    rw [twt_pl] at q
    refine ⟨_, rfl, o, CL, dx, _, _, rfl, ho, cl, A0.a1, rfl, rfl, _, rfl, ifn (decide_eq_false fun z => op.nf (V.str.inj z)) ?_⟩
    refine ⟨_, rfl, o, CL, dx, _, _, rfl, ho, cl, A0.a1, rfl, _, l4, rfl, .inr (W4 _), rfl, by decide, _, rfl, ?_⟩
    rcases okp3 op with ⟨k, t, rfl, h, h1, h2⟩ | ⟨k, m, rfl, h, h1⟩ | ⟨k, rfl, h⟩
    · obtain rfl : k = S kk := ek
      have kl : kk.length ≤ 6 := kl6 (.inl h)
      refine ify (cl_w h).2.1 ?_
      have ql := quote_len t
      refine ⟨_, rfl, .inl ⟨_, rfl, (by simp only [hE, hB, S_cat, S_len, List.length_append, List.length_nil, List.length_cons]; exact szB (by omega)), _, rfl, (by simp only [hE, hB, S_cat, S_len, List.length_append, List.length_nil, List.length_cons]; exact szB (by omega)), ?_⟩⟩
      refine ⟨_, rfl, o, CL, dx, _, _, rfl, ho, cl, A0.a1, rfl, .inl ⟨_, rfl, (by simp only [hE, hB, S_cat, S_len, List.length_append, List.length_nil, List.length_cons]; exact szB (by omega)), _, rfl, (by simp only [hE, hB, S_cat, S_len, List.length_append, List.length_nil, List.length_cons]; exact szB (by omega)), ?_⟩⟩
      refine ⟨_, rfl, (by simp only [hE, hB, S_cat, S_len, List.length_append, List.length_nil, List.length_cons]; exact szB (by omega)), ?_⟩
      refine ⟨_, rfl, o, CL, dx, _, _, rfl, ho, cl, A0.a2, rfl, t, rfl, by omega, fun H1 s1 => .inl ⟨_, rfl, (by simp only [hE, hB, S_cat, S_len, List.length_append, List.length_nil, List.length_cons]; exact szB (by omega)), _, rfl, (by simp only [hE, hB, S_cat, S_len, List.length_append, List.length_nil, List.length_cons]; exact szB (by omega)), ?_⟩⟩
      have := q H1 s1
      rw [show Str.empty ++ S (ngL n) ++ S kk ++ (" " : Str) ++ S (quoteL t) = S (ngL n ++ TL.joinL [32] ((pW (S kk, V.str (S t))).map (·.2.2))) by
        rw [hE, hB, S_cat, S_cat, S_cat, S_cat]
        show S _ = S (ngL n ++ (kk ++ ([32] ++ quoteL t)))
        simp only [List.append_assoc, List.nil_append]]
      exact this
    · obtain rfl : k = S kk := ek
      have kl : kk.length ≤ 6 := kl6 (.inr (.inl h))
      have nm := TL.numL_len (n := m) (k := 2) (by decide) (by omega)
      have hn : Str.ofString (toString ((m : Nat) : Int)) = S (TL.numL m) := num_S m
      refine ifn (cl_n h).2.1 ?_
      refine ⟨_, rfl, o, CL, dx, _, _, rfl, ho, cl, A0.a1, rfl, _, l2, rfl, .inr (W2 _), rfl, by decide, _, rfl, ?_⟩
      refine ify (cl_n h).2.2.1 ?_
      refine ⟨_, rfl, .inl ⟨_, rfl, (by simp only [hE, hB, S_cat, S_len, List.length_append, List.length_nil, List.length_cons]; exact szB (by omega)), _, rfl, (by simp only [hE, hB, S_cat, S_len, List.length_append, List.length_nil, List.length_cons]; exact szB (by omega)), ?_⟩⟩
      refine ⟨_, rfl, o, CL, dx, _, _, rfl, ho, cl, A0.a1, rfl, .inl ⟨_, rfl, (by simp only [hE, hB, S_cat, S_len, List.length_append, List.length_nil, List.length_cons]; exact szB (by omega)), _, rfl, (by simp only [hE, hB, S_cat, S_len, List.length_append, List.length_nil, List.length_cons]; exact szB (by omega)), ?_⟩⟩
      refine ⟨_, rfl, (by simp only [hE, hB, S_cat, S_len, List.length_append, List.length_nil, List.length_cons]; exact szB (by omega)), ?_⟩
      refine ⟨_, rfl, o, CL, dx, _, _, rfl, ho, cl, A0.a2, rfl, .inr ⟨_, rfl, by rw [Int.natAbs_natCast]; exact Nat.lt_of_le_of_lt (Nat.log2_le_self m) (by omega), _, rfl, ?_⟩⟩
      rw [hn]
      refine ⟨(by simp only [hE, hB, S_cat, S_len, List.length_append, List.length_nil, List.length_cons]; exact szB (by omega)), ?_⟩
      have := q _ (Same.refl _)
      rw [show Str.empty ++ S (ngL n) ++ S kk ++ (" " : Str) ++ S (TL.numL m) = S (ngL n ++ TL.joinL [32] ((pW (S kk, V.int (m : Int))).map (·.2.2))) by
        rw [hE, hB, S_cat, S_cat, S_cat, S_cat]
        show S _ = S (ngL n ++ (kk ++ ([32] ++ TL.numL m)))
        simp only [List.append_assoc, List.nil_append]]
      exact this
    · obtain rfl : k = S kk := ek
      have kl : kk.length ≤ 6 := kl6 (.inr (.inr h))
      refine ifn (cl_b h).2.1 ?_
      refine ⟨_, rfl, o, CL, dx, _, _, rfl, ho, cl, A0.a1, rfl, _, l2, rfl, .inr (W2 _), rfl, by decide, _, rfl, ?_⟩
      refine ifn (cl_b h).2.2.1 ?_
      refine ⟨_, rfl, _, rfl, o, CL, dx, _, _, rfl, ho, cl, A0.a1, rfl, _, _, rfl, rfl, (by simp only [hE, hB, S_cat, S_len, List.length_append, List.length_nil, List.length_cons]; exact szB (by omega)), ?_⟩
      have := q _ (Same.refl _)
      rw [S_cat]
      exact this
  | .rg p p' n, ⟨dx, ob, oc, ho, hb, hc⟩, ⟨op, op'⟩ =>
    have cl := A0.i.cl
    have W4 := (Classical.choose_spec T.g_WORD_TESTS).2
    have W2 := (Classical.choose_spec T.g_NUMBER_TESTS).2
    have nl : (ngL n).length ≤ 4 := by cases n <;> decide
    have hE : Str.empty = S [] := rfl
    have hB : (" " : Str) = S [32] := by decide +kernel
    refine ⟨fun σ' H' => σ' = [some (.ref o), some (.str (S (ngL n)))] ∧ H' = H, ?_, ?_⟩
    · refine ⟨_, rfl, o, CL, dx, _, _, rfl, ho, cl, A0.a5, rfl, n, rfl, ?_⟩
      cases n with
      | true => exact ifT ⟨by rw [show S (ngL true) = ("not " : Str) by decide +kernel]; rfl, rfl⟩
      | false => exact ifF ⟨by rw [show S (ngL false) = ("" : Str) by decide +kernel]; rfl, rfl⟩
    rintro σ' H' ⟨rfl, rfl⟩
    rw [twt_rg] at q
    refine ⟨_, rfl, o, CL, dx, _, _, rfl, ho, cl, A0.a1, rfl, rfl, _, rfl, ify (decide_eq_true rfl) ?_⟩
    have hF : ("from " : Str) = S [102, 114, 111, 109, 32] := by decide +kernel
    have hT : (" to " : Str) = S [32, 116, 111, 32] := by decide +kernel
    have l1 := pl_len' op
    have l2 := pl_len' op'
    refine ⟨_, rfl, .inl ⟨_, rfl, (by simp only [hE, hB, S_cat, S_len, List.length_append, List.length_nil, List.length_cons]; exact szB (by omega)), _, rfl, (by simp only [hE, hB, S_cat, S_len, List.length_append, List.length_nil, List.length_cons]; exact szB (by omega)), ?_⟩⟩
    refine ⟨_, rfl, (by simp only [hE, hB, hF, hT, S_cat, S_len, List.length_append, List.length_nil, List.length_cons]; exact szB (by omega)), ?_⟩
    refine ⟨_, rfl, o, CL, dx, _, _, rfl, ho, cl, A0.a3, rfl, ob, p, false, rfl, hb, op, fun H1 s1 => .inl ⟨_, rfl, (by simp only [hE, hB, hF, hT, S_cat, S_len, List.length_append, List.length_nil, List.length_cons]; exact szB (by omega)), _, rfl, (by simp only [hE, hB, hF, hT, S_cat, S_len, List.length_append, List.length_nil, List.length_cons]; exact szB (by omega)), ?_⟩⟩
    refine ⟨_, rfl, (by simp only [hE, hB, hF, hT, S_cat, S_len, List.length_append, List.length_nil, List.length_cons]; exact szB (by omega)), ?_⟩
    refine ⟨_, rfl, o, CL, dx, _, _, rfl, s1 _ _ ho, cl, A0.a4, rfl, oc, p', false, rfl, hc.sm s1, op', fun H2 s2 => .inl ⟨_, rfl, (by simp only [hE, hB, hF, hT, S_cat, S_len, List.length_append, List.length_nil, List.length_cons]; exact szB (by omega)), _, rfl, (by simp only [hE, hB, hF, hT, S_cat, S_len, List.length_append, List.length_nil, List.length_cons]; exact szB (by omega)), ?_⟩⟩
    have := q H2 (Same.trans s1 s2)
    rw [show Str.empty ++ S (ngL n) ++ ("from " : Str) ++ S (TL.joinL [32] (twT (.pl p false))) ++ (" to " : Str) ++ S (TL.joinL [32] (twT (.pl p' false))) = S (ngL n ++ ([102, 114, 111, 109, 32] ++ (TL.joinL [32] (twT (.pl p false)) ++ ([32, 116, 111, 32] ++ TL.joinL [32] (twT (.pl p' false)))))) by
      rw [hE, hF, hT, S_cat, S_cat, S_cat, S_cat, S_cat]
      simp only [List.append_assoc, List.nil_append]]
    exact this

end
end Vf

set_option maxRecDepth 100000
set_option maxHeartbeats 4000000
namespace Vf
open PySem PySem.Spec PyProof.Rows L2 SX
section
variable {P : Program} {w : World} {K : PySem.W.Frag} {mg : Str → Option Value} {base : Heap}
theorem plr_ptr {K : PySem.W.Frag} {H : Hp} {p : Pt} {o : Option Er} (h : PlR p o) : PtR K H (.str p.1) p.2 o := by
  cases h with
  | ok h => exact .ok h
  | @wd k t h h1 h2 h3 => exact .noWord h (.inr ⟨t, rfl, by omega, h3⟩)
  | @nu k lo hi n h h1 h2 => exact .noNum h (.inr ⟨n, rfl, h2⟩)
theorem plr_ok {p : Pt} (h : PlR p none) : OkP p := by
  cases h with
  | ok h => exact h
theorem ErAt.sm {CB CN : Addr} {H H1 : Hp} {e : Er} {E : XK} (h : ErAt CB CN H e E) (s : Same H H1) : ErAt CB CN H1 e E := fun d H' s2 z => h d H' (Same.trans s s2) z
theorem md_at {ps : List Pt} {m : Option Er} (h : MdR ps m) : (ps.length = 1 ∨ ps.length = 2) ∧ ∃ k, k ≤ ps.length ∧ (∀ i, i < k → ∀ p, ps[i]? = some p → OkP p) ∧ ((k = ps.length ∧ m = none) ∨ ∃ p e, ps[k]? = some p ∧ PlR p (some e) ∧ m = some e) := by
  cases h with
  | @one p _ h =>
    refine ⟨.inl rfl, ?_⟩
    cases m with
    | none => exact ⟨1, Nat.le_refl _, fun i hi q hq => by
        have : i = 0 := by omega
        subst this
        cases hq
        exact plr_ok h, .inl ⟨rfl, rfl⟩⟩
    | some e => exact ⟨0, Nat.zero_le _, fun i hi => by omega, .inr ⟨p, e, rfl, h, rfl⟩⟩
  | @fst p q e h h2 => exact ⟨.inr rfl, 0, Nat.zero_le _, fun i hi => by omega, .inr ⟨p, e, rfl, h, rfl⟩⟩
  | @snd p q _ h h2 =>
    refine ⟨.inr rfl, ?_⟩
    cases m with
    | none => exact ⟨2, Nat.le_refl _, fun i hi r hr => by
        match i, hi with
        | 0, _ => cases hr; exact plr_ok h
        | 1, _ => cases hr; exact plr_ok h2, .inl ⟨rfl, rfl⟩⟩
    | some e => exact ⟨1, (by show 1 ≤ 2; decide), fun i hi r hr => by
        have : i = 0 := by omega
        subst this
        cases hr
        exact plr_ok h, .inr ⟨q, e, rfl, h2, rfl⟩⟩
theorem pr_at {H : Hp} {as : List Addr} {ps : List Pt} (h : Paired (PrAt H) as ps) : ∀ {i : Nat} {x : V}, (as.map V.ref)[i]? = some x → ∃ a p, x = .ref a ∧ ps[i]? = some p ∧ PrAt H a p := by
  induction h with
  | nil => intro i x hx; cases hx
  | cons hab _ ih =>
    intro i x hx
    cases i with
    | zero => cases hx; exact ⟨_, _, rfl, rfl, hab⟩
    | succ i => exact ih hx
theorem pd_len {R : Addr → Pt → Prop} {as : List Addr} {ps : List Pt} (h : Paired R as ps) : as.length = ps.length := by
  induction h with
  | nil => rfl
  | cons _ _ ih => exact congrArg (· + 1) ih
theorem pd_snoc {R : Addr → Pt → Prop} {as : List Addr} {ps : List Pt} {a : Addr} {p : Pt} (h : Paired R as ps) (x : R a p) : Paired R (as ++ [a]) (ps ++ [p]) := by
  induction h with
  | nil => exact .cons x .nil
  | cons y _ ih => exact .cons y ih
theorem ok_madeLinetest {f : Addr} {fd : FuncData} {CL CBadWord CBadNumber : Addr} (F : C8.Def K mg "made_linetest" s_madeLinetest f fd) (b : Binds K fd ["form"] []) (T : Tx K w mg)
    (C_plainTest : CalX P w K mg base 4 "plain_test" (sp_plainTest K CL CBadWord CBadNumber)) (C_rangeTest : CalX P w K mg base 3 "range_test" (sp_rangeTest K CL CBadWord CBadNumber)) (C_otherTest : CalX P w K mg base 3 "other_test" (sp_otherTest K CL CBadWord CBadNumber)) :
    CalX P w K mg base 5 "made_linetest" (sp_madeLinetest CL CBadWord CBadNumber) := by
  refine calX F b sc_madeLinetest (fun vs H Q E h => ?_) (fun cdv A outer s H vs Q E hr h => ?_)
  · obtain ⟨a, f, o, rfl, _⟩ := h; rfl
  have hu := hu_of hr
  refine ⟨_, (pss_cons (ps_asg (pv 0) (pg_tup (by rfl) (pgs_cons (pg_name (i := 1) sc_madeLinetest.nd rfl (Or.inl rfl)) (pgs_cons (pg_name (i := 2) sc_madeLinetest.nd rfl (Or.inl rfl)) pgs_nil))))
      (pss_cons (ps_setLcX (E := E) (i := 3) (own := [("word", 5), ("argument", 6)]) (g := (gTup K 2 (gCons (gName 5) (gCons (gName 6) gNil)))) (tt := tYes) rfl rfl (takes_of rfl rfl rfl rfl) rfl sc_madeLinetest.nd rfl rfl (sw_true rfl rfl rfl (by decide +kernel)) (pi_tup (pv 2)) (blkOk_by (N := N_madeLinetest) (sc := C8.fnScope s_madeLinetest) (by decide +kernel)) (fun _ _ _ _ _ => pg_tup (by rfl) (pgs_cons (pg_name (i := 5) sc_madeLinetest.nd rfl (Or.inl rfl)) (pgs_cons (pg_name (i := 6) sc_madeLinetest.nd rfl (Or.inl rfl)) pgs_nil))) (fun _ _ _ _ _ => pts_nil) (fun _ _ _ _ _ _ _ pa => (pe_cxP C_plainTest hr (by decide) rfl pa (pa_cons (pv 5) (pa_cons (pv 6) pa_nil)))))
      (pss_cons (ps_set (i := 4) sc_madeLinetest.nd rfl (Or.inl rfl) (pe_ifExp (pt_cmpR op_eq (pe_callB call_len (by rfl) T.z_len PySem.boot_len (pa_cons (pv 3) pa_nil)) pe_int (nomark _)) (pe_cx C_rangeTest hr (by decide) rfl (takes_of rfl rfl rfl rfl) (pa_cons (pe_ix ix_list (pv 3) pe_int (fun _ _ => rfl)) (pa_cons (pe_ix ix_list (pv 3) pe_int (fun _ _ => rfl)) pa_nil))) (pe_ix ix_list (pv 3) pe_int (fun _ _ => rfl))))
      (pss_one (ps_ret (pe_ifExp (pt_val (pv 1)) (pe_cx C_otherTest hr (by decide) rfl (takes_of rfl rfl rfl rfl) (pa_cons (pv 4) pa_nil)) (pv 4))))))), ?_⟩
  obtain ⟨a, f, m, rfl, ⟨pb, as, h0, h1, h2⟩, md, qo, qe⟩ := h
  obtain ⟨hl, k, hk, good, out⟩ := md_at md
  have la := pd_len h2
  refine ⟨_, rfl, a, _, rfl, SqT.of h0, rfl, _, _, rfl, _, _, rfl, rfl, ?_⟩
  refine ⟨_, rfl, pb, rfl, ⟨_, SqT.of h1⟩, fun D hD => ?_⟩
  refine lc_tup (K := K) (a := pb) (xs := as.map V.ref) (fun i H' => i ≤ k ∧ ∃ os : List Addr, H' D = some (.lst (os.map V.ref)) ∧ Same H H' ∧ Paired (fun o p => PlAt CL H' o p false) os (f.2.take i)) ⟨Nat.zero_le _, [], upd_same, same_new (Same.refl H) hD _, .nil⟩ (fun i H' _ ⟨_, _, _, s, _⟩ => SqT.of (s _ _ h1)) ?_ ?_
  · rintro i x H1 hx ⟨hik, os, hos, s1, hp⟩
    obtain ⟨pa, p, rfl, hpi, hpa⟩ := pr_at h2 hx
    have hi := (List.getElem?_eq_some_iff.mp hpi).1
    have lo : os.length = i := by rw [pd_len hp, List.length_take]; omega
    refine ⟨pa, _, rfl, SqT.of (s1 _ _ hpa), rfl, _, _, rfl, _, _, rfl, rfl, rfl, ?_⟩
    dsimp only [tYes]
    rw [if_pos rfl]
    rcases Nat.lt_or_ge i k with hlt | hge
    · have op := good i hlt p hpi
      refine ⟨_, rfl, _, rfl, _, _, none, rfl, .ok op, fun _ H4 o kk hk s4 ho => ?_, fun e z => nomatch z⟩
      obtain rfl := V.str.inj hk
      refine ⟨_, s4 _ _ hos, szL (by rw [List.length_map]; omega), hlt, os ++ [o], by rw [upd_same, List.map_append]; rfl, fun b' o' z => by rw [upd_ne (ne_of_none z hD)]; exact s4 _ _ (s1 _ _ z), ?_⟩
      have nD : ∀ {x : Addr} {p : Pt}, PlAt CL H4 x p false → PlAt CL (upd H4 D (.lst (os.map V.ref ++ [.ref o]))) x p false := fun {x p} ⟨dx, z⟩ => ⟨dx, by rw [upd_ne fun y => by rw [y, s4 _ _ hos] at z; cases z]; exact z⟩
      rw [List.take_add_one, hpi]
      exact pd_snoc (L2.Paired.mapP hp fun x p z => nD (PlAt.sm z s4)) (nD ho)
    · have ek : i = k := by omega
      subst ek
      rcases out with ⟨e1, _⟩ | ⟨p', e, hp', hr', rfl⟩
      · omega
      rw [hpi] at hp'
      cases hp'
      exact ⟨_, rfl, _, rfl, _, _, some e, rfl, plr_ptr hr', (fun z => by cases z), fun e' z => (by cases z; exact (qe _ rfl).sm s1)⟩
  · rintro H1 ⟨hik, os, hos, s1, hp⟩
    rw [List.length_map, la] at hik hp
    have ek : k = f.2.length := by omega
    have em : m = none := by
      rcases out with ⟨_, e⟩ | ⟨p, e, hp', _⟩
      · exact e
      · rw [ek, List.getElem?_eq_none (Nat.le_refl _)] at hp'
        cases hp'
    rw [List.take_length] at hp
    obtain ⟨n, ps⟩ := f
    have q := qo em
    match ps, hp, hl, hik, good with
    | [p], @Paired.cons _ _ _ o _ _ _ ⟨dx, ho⟩ .nil, _, _, good =>
      refine ⟨_, rfl, _, 1, rfl, .inl ⟨_, SqL.of hos, rfl⟩, rfl, _, rfl, ifn (by decide) ?_⟩
      refine ⟨_, rfl, D, _, _, _, rfl, rfl, SqL.of hos, rfl, ?_⟩
      refine ⟨_, rfl, n, rfl, ?_⟩
      cases n with
      | true => exact ifT ⟨_, rfl, .ref o, rfl, .inr ⟨o, dx, p, _, _, rfl, ho, fun H' c dz s2 hc => q H' c (Same.trans s1 s2) ⟨dz, hc⟩⟩⟩
      | false => exact ifF ⟨_, rfl, q H1 o s1 ⟨dx, ho⟩⟩
    | [p, p'], @Paired.cons _ _ _ o _ _ _ ⟨dx, ho⟩ (@Paired.cons _ _ _ o' _ _ _ ⟨dx', ho'⟩ .nil), _, _, good =>
      have k2 : k = 2 := ek
      refine ⟨_, rfl, _, 2, rfl, .inl ⟨_, SqL.of hos, rfl⟩, rfl, _, rfl, ify (by decide) ?_⟩
      refine ⟨_, rfl, D, _, _, _, rfl, rfl, SqL.of hos, rfl, _, rfl, D, _, _, _, rfl, rfl, SqL.of hos, rfl, ?_⟩
      refine ⟨_, _, rfl, .inr ⟨o, dx, p, _, _, rfl, ho, (good 0 (by omega) p rfl).nf, .inr ⟨o', dx', p', _, _, rfl, ho', (good 1 (by omega) p' rfl).nf, fun H2 c dz s2 hc => ?_⟩⟩⟩
      have po : PlAt CL H2 o p false := ⟨dx, s2 _ _ ho⟩
      have po' : PlAt CL H2 o' p' false := ⟨dx', s2 _ _ ho'⟩
      refine ⟨_, rfl, n, rfl, ?_⟩
      cases n with
      | true => exact ifT ⟨_, rfl, .ref c, rfl, .inr ⟨c, dz, _, _, _, rfl, hc, fun H' c' dz' s3 hc' => q H' c' (Same.trans s1 (Same.trans s2 s3)) ⟨dz', o, o', hc', po.sm s3, po'.sm s3⟩⟩⟩
      | false => exact ifF ⟨_, rfl, q H2 c (Same.trans s1 s2) ⟨dz, o, o', hc, po, po'⟩⟩

end
end Vf

set_option maxRecDepth 100000
set_option maxHeartbeats 4000000
namespace Vf
open PySem PySem.Spec PyProof.Rows L2 SX
section
variable {P : Program} {w : World} {K : PySem.W.Frag} {mg : Str → Option Value} {base : Heap}
theorem ok_numberAt {f : Addr} {fd : FuncData} (F : C8.Def K mg "number_at" s_numberAt f fd) (b : Binds K fd ["line", "at"] []) (T : Tx K w mg) (C_runEnd : C8.Cal P w K mg base 1 "run_end" sp_runEnd []) : C8.Cal P w K mg base 2 "number_at" sp_numberAt [] := by
  refine C8.cal0 F b .nil sc_numberAt (fun vs H Q E h => ?_) (fun cdv A outer s H vs Q E hr h => ?_)
  · obtain ⟨l, i, c, rfl, _⟩ := h; rfl
  have hu := hu_of hr
  refine ⟨_, (pss_cons (ps_set (i := 2) sc_numberAt.nd rfl (Or.inl rfl) (C8.pe_c C_runEnd hr (by decide) rfl (pa_cons (pv 0) (pa_cons (pv 1) (pa_cons (C8.pe_gc rfl T.g_FIGURES) pa_nil)))))
      (C8.pss_cut (ps_if (PW.pt (pw_and (pt_cmpR op_gt (pe_op op_sub (pv 2) (pv 1)) pe_int (nomark _)) (pw_and1 (pt_cmpR op_eq (pe_ix ix_str (pv 0) (pv 1) (fun _ _ => rfl)) pe_str (nomark _)))))
      (pss_one (ps_ret (pe_tup (pa_cons pe_str (pa_cons (pe_op op_add (pv 1) pe_int) (pa_cons (pv 2) pa_nil))))))
      pss_nil)
      (pss_cons (ps_if (pt_cmpR op_gt (pe_op op_sub (pv 2) (pv 1)) (C8.pe_gc rfl T.g_MOST_FIGURES) (nomark _))
      (pss_one (ps_ret (pe_tup (pa_cons pe_str (pa_cons (pe_op op_add (pe_op op_add (pv 1) (C8.pe_gc rfl T.g_MOST_FIGURES)) pe_int) (pa_cons (pv 2) pa_nil))))))
      pss_nil)
      (pss_one (ps_ret (pe_tup (pa_cons pe_str (pa_cons (pe_callTy call_int_str (by rfl) T.z_int (by decide +kernel) (pa_cons (pe_slice C8.sl_txt (pv 0) (po_some (pv 1)) (po_some (pv 2))) pa_nil)) (pa_cons (pv 2) pa_nil))))))))), ?_⟩

  obtain ⟨l, i, c, rfl, hl, hc, hfig, q⟩ := h
  obtain ⟨hi, ei⟩ := List.getElem?_eq_some_iff.mp hc
  have ge := runEnd_ge figL l i
  have le := runEnd_le (sg := figL) (show i ≤ l.length by omega)
  have gt : i < runEnd figL l i := by
    rw [← runEnd_step hc hfig]
    exact Nat.lt_of_lt_of_le (Nat.lt_succ_self i) (runEnd_ge figL l (i + 1))
  unfold numAt at q
  refine ⟨_, rfl, _, rfl, l, figL, i, rfl, hl, ?_⟩
  have ew : decide (V.str (S [c]) = V.str (Str.ofString "0")) = decide (c = 48) := eq1 c 48
  have fin3 : ∀ w : W3, w3Post w H Q → ∀ p, H p = none → Q (.ref p) (upd H p (.tup (w3V w))) := fun w hw p np => hw _ p (same_new (Same.refl H) np _) upd_same
  refine ⟨fun σ' H' => σ' = [some (.str (S l)), some (.int (i : Int)), some (.int ((runEnd figL l i : Nat) : Int))] ∧ H' = H ∧ ¬ (runEnd figL l i - i > 1 ∧ l[i]? = some 48), ?_, ?_⟩
  · refine ⟨_, rfl, _, rfl, _, _, rfl, rfl, _, _, rfl, rfl, _, rfl, ?_⟩
    refine ite2 (fun e1 => ?_) (fun e1 => ?_)
    · have e1' : (1 : Int) < ((runEnd figL l i : Nat) : Int) - (i : Int) := of_decide_eq_true e1
      refine ⟨_, rfl, _, rfl, S l, _, c, rfl, rfl, by rw [S_len]; exact szB (by omega), atI_nat hc, rfl, _, rfl, ?_⟩
      refine ite2 (fun e2 => ?_) (fun e2 => ?_)
      · have e2' : c = 48 := of_decide_eq_true (ew.symm.trans e2)
        rw [if_pos ⟨by omega, by rw [hc, e2']⟩] at q
        exact ⟨_, rfl, _, _, rfl, rfl, _, rfl, sz_3, fun p np => fin3 _ q p np⟩
      · have e2' : ¬ c = 48 := fun h => e2 (ew.trans (decide_eq_true h))
        exact ⟨rfl, rfl, fun h => e2' (by rw [hc] at h; exact Option.some.inj h.2)⟩
    · have e1' : ¬ (1 : Int) < ((runEnd figL l i : Nat) : Int) - (i : Int) := of_decide_eq_false (Bool.eq_false_iff.mpr e1)
      refine iteF ?_
      exact ⟨rfl, rfl, fun h => e1' (by omega)⟩
  · rintro σ' H' ⟨rfl, rfl, hn⟩
    rw [if_neg hn] at q
    refine ⟨_, rfl, _, rfl, _, _, rfl, rfl, _, _, rfl, rfl, _, rfl, ?_⟩
    refine ite2 (fun e1 => ?_) (fun e1 => ?_)
    · have e1' : (9 : Int) < ((runEnd figL l i : Nat) : Int) - (i : Int) := of_decide_eq_true e1
      rw [if_pos (by omega)] at q
      exact ⟨_, rfl, _, _, rfl, rfl, _, _, rfl, rfl, _, rfl, sz_3, fun p np => fin3 _ q p np⟩
    · have e1' : ¬ (9 : Int) < ((runEnd figL l i : Nat) : Int) - (i : Int) := of_decide_eq_false (Bool.eq_false_iff.mpr e1)
      rw [if_neg (by omega)] at q
      have tw : (l.drop i).take (runEnd figL l i - i) = (l.drop i).takeWhile (fun c => decide (c ∈ figL)) := by
        unfold runEnd
        rw [Nat.add_sub_cancel_left]
        exact (List.prefix_iff_eq_take.mp (List.takeWhile_prefix _)).symm
      have hd : ∀ ch ∈ (l.drop i).take (runEnd figL l i - i), 48 ≤ ch ∧ ch ≤ 57 := fun ch hch => by
        rw [tw] at hch
        have z : ch ∈ figL := of_decide_eq_true (tw_all hch)
        exact (show ∀ x ∈ figL, 48 ≤ x ∧ x ≤ 57 by decide) ch z
      have ln : ((l.drop i).take (runEnd figL l i - i)).length = runEnd figL l i - i := by
        rw [List.length_take, List.length_drop]
        omega
      refine ⟨_, rfl, _, rfl, _, rfl, _, rfl, _, rfl, S l, rfl, by rw [S_len]; exact szB (by omega), S ((l.drop i).take (runEnd figL l i - i)), _, ?_, int_S (List.all_eq_true.mpr fun ch hch => by
        have := hd ch hch
        rw [Bool.and_eq_true, decide_eq_true_eq, decide_eq_true_eq]
        exact this) (fun e => by rw [e] at ln; simp at ln; omega) (by omega), by rw [S_len]; omega, _, rfl, sz_3, fun p np => fin3 _ q p np⟩
      rw [slice2 ge]

end
end Vf

set_option maxRecDepth 100000
set_option maxHeartbeats 4000000
namespace Vf
open PySem PySem.Spec PyProof.Rows L2 SX
section
variable {P : Program} {w : World} {K : PySem.W.Frag} {mg : Str → Option Value} {base : Heap}
theorem ok_otherTest {f : Addr} {fd : FuncData} (F : C8.Def K mg "other_test" s_otherTest f fd) (b : Binds K fd ["test"] []) (T : Tx K w mg) {CBadText CBadWord CBadNumber CW : Addr} (ES : Es P w K mg base CBadText CBadWord CBadNumber CW) {CL : Addr} (CO : Co P w K mg base CL) (A0 : Ca K CL)  : CalX P w K mg base 3 "other_test" (sp_otherTest K CL CBadWord CBadNumber) := by
  refine calX F b sc_otherTest (fun vs H Q E h => ?_) (fun cdv A outer s H vs Q E hr h => ?_)
  · obtain ⟨x, rfl, _⟩ := h; rfl
  have hu := hu_of hr
  refine ⟨_, (C8.pss_cut (ps_if (PW.pt (pw_or (pt_not (pt_val (pe_callB call_isi (by rfl) T.z_isinstance (by decide +kernel) (pa_cons (pv 0) (pa_cons (pe_cls (CO.g_LineTest) rfl) pa_nil))))) (pw_or1 (pt_val (pe_fld (pv 0) rfl)))))
      (pss_one (ps_rx ES.r_BadWord hr (by decide) rfl rfl (takes_of rfl rfl rfl rfl) (pa_cons pe_str pa_nil)))
      pss_nil)
      (pss_one (ps_ret (C8.pe_mk CO.m_LineTest hr (by decide) rfl (pa_cons (pe_fld (pv 0) rfl) (pa_cons (pe_fld (pv 0) rfl) (pa_cons (pe_tup (pa_cons (pe_fld (pv 0) rfl) (pa_cons (pe_fld (pv 0) rfl) pa_nil))) (pa_cons pe_bl pa_nil)))))))), ?_⟩

  obtain ⟨x, rfl, h⟩ := h
  have cl := A0.i.cl
  rcases h with ⟨hb, he⟩ | ⟨a, dx, p, u, v, rfl, ha, q⟩
  · refine ⟨fun _ _ => False, ?_, fun _ _ z => z.elim⟩
    rcases hb with ⟨t, ty, e⟩ | ⟨a, dx, p, u, v, rfl, ha⟩
    · refine ⟨_, rfl, _, _, _, _, false, rfl, .own CL, ty, e, false, rfl, ify rfl (ifT ?_)⟩
      exact ⟨rfl, fun d H2 hd ex sm => he d H2 sm ex⟩
    · refine ⟨_, rfl, _, _, _, _, true, rfl, .own CL, .base (TyOf.ins ha cl A0.i.ha A0.i.hn A0.i.htk A0.i.hm), A0.i.me, true, rfl, ifn rfl ?_⟩
      refine ⟨_, rfl, a, CL, dx, _, _, rfl, ha, cl, A0.a5, rfl, true, rfl, ify rfl ?_⟩
      exact ⟨rfl, fun d H2 hd ex sm => he d H2 sm ex⟩
  · refine ⟨fun σ' H' => σ' = [some (.ref a)] ∧ H' = H, ?_, ?_⟩
    · refine ⟨_, rfl, _, _, _, _, true, rfl, .own CL, .base (TyOf.ins ha cl A0.i.ha A0.i.hn A0.i.htk A0.i.hm), A0.i.me, true, rfl, ifn rfl ?_⟩
      exact ⟨_, rfl, a, CL, dx, _, _, rfl, ha, cl, A0.a5, rfl, false, rfl, ifn rfl ⟨rfl, rfl⟩⟩
    rintro σ' H' ⟨rfl, rfl⟩
    refine ⟨_, rfl, a, CL, dx, _, _, rfl, ha, cl, A0.a1, rfl, _, rfl, a, CL, dx, _, _, rfl, ha, cl, A0.a2, rfl, _, rfl, a, CL, dx, _, _, rfl, ha, cl, A0.a3, rfl, _, rfl, a, CL, dx, _, _, rfl, ha, cl, A0.a4, rfl, sz_2, fun pa hpa c dz h1 h2 ne => ?_⟩
    have ne1 : pa ≠ dz := ne_of_none upd_same h2
    have ne2 : pa ≠ c := ne_of_none upd_same h1
    refine ⟨c, dz, pa, _, _, _, _, true, rfl, upd_same, by rw [upd_ne ne2, upd_ne ne1]; exact upd_same, rfl, ?_⟩
    exact q _ c dz (made_same (same_new (fun _ _ z => z) hpa _) h1 h2) upd_same

end
end Vf

set_option maxRecDepth 100000
set_option maxHeartbeats 4000000
namespace Vf
open PySem PySem.Spec PyProof.Rows L2 SX
section
variable {P : Program} {w : World} {K : PySem.W.Frag} {mg : Str → Option Value} {base : Heap}
theorem ok_pen {f : Addr} {fd : FuncData} (F : C8.Def K mg "_law_pen" s_pen f fd) (b : Binds K fd ["_law_script"] []) (T : Tx K w mg)  : C8.Cal P w K mg base 1 "_law_pen" (sp_pen K) [] := by
  refine C8.cal0 F b .nil sc_pen (fun vs H Q E h => ?_) (fun cdv A outer s H vs Q E hr h => ?_)
  · obtain ⟨a, ns, rfl, _⟩ := h; rfl
  have hu := hu_of hr
  refine ⟨_, (pss_cons (ps_set (i := 1) sc_pen.nd rfl (Or.inl rfl) pe_int)
      (pss_cons (ps_for PassesOwn.never rfl (pi_list (pv 0)) (pg_name (i := 2) sc_pen.nd rfl (Or.inl rfl))
      (pss_one (ps_set (i := 1) sc_pen.nd rfl (Or.inl rfl) (pe_op op_mod (pe_callTy call_int1 (by rfl) T.z_int (by decide +kernel) (pa_cons (pe_op op_add (pe_op op_mul (pv 1) pe_int) (pv 2)) pa_nil)) pe_int))))
      (pss_one (ps_ret (pe_disp (pps_cons pe_str (pe_callTy call_list_of (by rfl) T.z_list (by decide +kernel) (pa_cons (pv 0) pa_nil)) (pps_cons pe_str pe_int (pps_cons pe_str pe_int (pps_cons pe_str pe_int (pps_cons pe_str (pv 1) pps_nil))))) (by rfl) (by rfl) (fun z => by cases z) (by decide)))))), ?_⟩

  obtain ⟨a, ns, rfl, hS, hl, q⟩ := h
  refine ⟨_, rfl, a, rfl, ⟨_, hS⟩, for_list (K := K) (a := a) (xs := ns.map V.int) (fun i σ H2 => ∃ (f : Int) (v : Option V), σ = [some (.ref a), some (.int f), v] ∧ H2 = H ∧ 0 ≤ f ∧ f < 1000000007)
    ⟨0, none, rfl, rfl, by decide, by decide⟩ (fun i σ H2 _ ⟨_, _, _, e, _⟩ => by rw [e]; exact hS) ?_ ?_⟩
  · rintro i y σ H2 hi ⟨fo, v, rfl, rfl, h0, h1⟩
    obtain ⟨z, rfl⟩ : ∃ z, y = V.int z := by
      rw [List.getElem?_map] at hi
      cases e : ns[i]? with
      | none => rw [e] at hi; cases hi
      | some z => rw [e] at hi; exact ⟨z, (Option.some.inj hi).symm⟩
    refine ⟨_, rfl, _, _, rfl, rfl, .inl ⟨by omega, by omega⟩, _, rfl, _, _, rfl, rfl, .inl ⟨_, rfl, _, _, rfl, rfl, (by decide : (0 : Int) < 1000000007), ?_⟩⟩
    exact ⟨_, _, rfl, rfl, Int.emod_nonneg _ (by decide), Int.emod_lt_of_pos _ (by decide)⟩
  · rintro σ H2 ⟨fo, v, rfl, rfl, h0, h1⟩
    intro p np
    refine ⟨_, rfl, a, _, rfl, .inl ((Ks.new1 np _).seq hS), fun c nc => ?_⟩
    have hcp : c ≠ p := fun e => by rw [e, upd_same] at nc; cases nc
    refine ⟨_, rfl, by rw [upd_ne hcp.symm, upd_same], [(.inr "cells", .ref c), (.inr "at", .int 0), (.inr "digits", .int 0), (.inr "count", .int 0), (.inr "fold", .int fo)], rfl, (by show 5 ≤ 15; decide), ?_⟩
    have nc0 : H2 c = none := by rw [upd_ne hcp] at nc; exact nc
    refine q _ p c (((Ks.new1 np _).upd nc0 _).upd np _) ⟨ns, 0, 0, 0, fo, Eq.trans upd_same rfl, ?_, hl, by decide, by decide, by decide, by decide, h0, by omega⟩
    rw [upd_ne hcp, upd_same]

end
end Vf

set_option maxRecDepth 100000
set_option maxHeartbeats 4000000
namespace Vf
open PySem PySem.Spec PyProof.Rows L2 SX
section
variable {P : Program} {w : World} {K : PySem.W.Frag} {mg : Str → Option Value} {base : Heap}
theorem ok_pick {f : Addr} {fd : FuncData} (F : C8.Def K mg "_law_pick" s_pick f fd) (b : Binds K fd ["_law_pen_here", "_law_some"] []) (T : Tx K w mg) (C_draw : C8.Cal P w K mg base 1 "_law_draw" sp_draw []) : C8.Cal P w K mg base 2 "_law_pick" sp_pick [] := by
  refine C8.cal0 F b .nil sc_pick (fun vs H Q E h => ?_) (fun cdv A outer s H vs Q E hr h => ?_)
  · obtain ⟨p, c, m, x, rfl, _⟩ := h; rfl
  have hu := hu_of hr
  refine ⟨_, (pss_one (ps_ret (pe_ix ix_seq (pv 1) (C8.pe_c C_draw hr (by decide) rfl (pa_cons (pv 0) (pa_cons (pe_callB call_len (by rfl) T.z_len PySem.boot_len (pa_cons (pv 1) pa_nil)) pa_nil))) (fun _ _ => rfl)))), ?_⟩

  obtain ⟨p, c, m, x, rfl, hp, hm, q⟩ := h
  rcases q with ⟨l, rfl, l1, l2, q⟩ | ⟨a, xs, rfl, ha, l1, l2, q⟩
  · refine ⟨_, rfl, _, rfl, _, rfl, _, l.length, rfl, ⟨by rw [S_len]; exact szB l2, by rw [S_len]⟩, ?_⟩
    refine ⟨p, c, m, l.length, rfl, hp, hm, l1, by omega, fun H' r k1 k2 hr' => ?_⟩
    refine .inr (.inr ⟨S l, _, l[r], rfl, rfl, by rw [S_len]; exact szB l2, atI_nat (List.getElem?_eq_getElem hr'), ?_⟩)
    exact q H' _ k1 k2 (List.getElem_mem _)
  · refine ⟨_, rfl, _, rfl, _, rfl, _, xs.length, rfl, .inl ⟨_, SqL.of ha, rfl⟩, ?_⟩
    refine ⟨p, c, m, xs.length, rfl, hp, hm, l1, by omega, fun H' r k1 k2 hr' => ?_⟩
    refine .inl ⟨a, xs, _, xs[r], rfl, rfl, SqL.of (k1.lst ha), atI_nat (List.getElem?_eq_getElem hr'), ?_⟩
    exact q H' _ k1 k2 (List.getElem_mem _)

end
end Vf

set_option maxRecDepth 100000
set_option maxHeartbeats 4000000
namespace Vf
open PySem PySem.Spec PyProof.Rows L2 SX
section
variable {P : Program} {w : World} {K : PySem.W.Frag} {mg : Str → Option Value} {base : Heap}
theorem ok_plainTest {f : Addr} {fd : FuncData} (F : C8.Def K mg "plain_test" s_plainTest f fd) (b : Binds K fd ["word", "argument"] []) (T : Tx K w mg) {CBadText CBadWord CBadNumber CW : Addr} (ES : Es P w K mg base CBadText CBadWord CBadNumber CW) {CL : Addr} (CO : Co P w K mg base CL) (C_isLineWord : C8.Cal P w K mg base 3 "is_line_word" (sp_isLineWord K) []) (C_isWithin : C8.Cal P w K mg base 2 "is_within" (sp_isWithin K) []) : CalX P w K mg base 4 "plain_test" (sp_plainTest K CL CBadWord CBadNumber) := by
  refine calX F b sc_plainTest (fun vs H Q E h => ?_) (fun cdv A outer s H vs Q E hr h => ?_)
  · obtain ⟨x, g, o, rfl, _⟩ := h; rfl
  have hu := hu_of hr
  refine ⟨_, (C8.pss_cut (ps_if (PW.pt (pw_or (pt_not (pt_val (pe_callB call_isi (by rfl) T.z_isinstance (by decide +kernel) (pa_cons (pv 0) (pa_cons (pe_bltn (v := .ty "str") (by rfl) T.z_str (by decide +kernel) rfl) pa_nil))))) (pw_or1 (pt_cmpR op_notIn_seq (pv 0) (pe_tup (StX.pa_star (C8.pe_gc rfl (Classical.choose_spec T.g_WORD_TESTS).1) (StX.pa_star (C8.pe_gc rfl (Classical.choose_spec T.g_NUMBER_TESTS).1) (StX.pa_star (C8.pe_gc rfl (Classical.choose_spec T.g_BARE_TESTS).1) pa_nil)))) rfl))))
      (pss_one (ps_rx ES.r_BadWord hr (by decide) rfl rfl (takes_of rfl rfl rfl rfl) (pa_cons pe_str pa_nil)))
      pss_nil)
      (C8.pss_cut (ps_if (PW.pt (pw_and (pt_cmpR op_in_seq (pv 0) (C8.pe_gc rfl (Classical.choose_spec T.g_WORD_TESTS).1) rfl) (pw_and1 (pt_not (pt_val (C8.pe_c C_isLineWord hr (by decide) rfl (pa_cons (pv 1) pa_nil)))))))
      (pss_one (ps_rx ES.r_BadWord hr (by decide) rfl rfl (takes_of rfl rfl rfl rfl) (pa_cons pe_str pa_nil)))
      pss_nil)
      (C8.pss_cut (ps_if (PW.pt (pw_and (pt_cmpR op_in_seq (pv 0) (C8.pe_gc rfl (Classical.choose_spec T.g_NUMBER_TESTS).1) rfl) (pw_and1 (pt_not (pt_val (C8.pe_c C_isWithin hr (by decide) rfl (pa_cons (pv 1) (pa_cons (pe_kix (K := K) (w := w) rfl rfl (C8.pe_gc rfl (Classical.choose_spec T.g_BOUNDS).1) (pv 0) (fun _ _ => rfl)) pa_nil))))))))
      (pss_one (ps_rx ES.r_BadNumber hr (by decide) rfl rfl (takes_of rfl rfl rfl rfl) (pa_cons (pv 0) (pa_cons (pv 1) pa_nil))))
      pss_nil)
      (C8.pss_cut (ps_if (PW.pt (pw_and (pt_cmpR op_in_seq (pv 0) (C8.pe_gc rfl (Classical.choose_spec T.g_BARE_TESTS).1) rfl) (pw_and1 (pt_cmpR op_notN (pv 1) pe_non (nomark _)))))
      (pss_one (ps_rx ES.r_BadWord hr (by decide) rfl rfl (takes_of rfl rfl rfl rfl) (pa_cons pe_str pa_nil)))
      pss_nil)
      (pss_one (ps_ret (C8.pe_mk CO.m_LineTest hr (by decide) rfl (pa_cons (pv 0) (pa_cons (pv 1) (pa_cons (pe_tup (pa_cons pe_non (pa_cons pe_non pa_nil))) (pa_cons pe_bl pa_nil))))))))))), ?_⟩

  obtain ⟨x, g, o, rfl, hp, qo, qe⟩ := h
  have W4 := (Classical.choose_spec T.g_WORD_TESTS).2
  have W2 := (Classical.choose_spec T.g_NUMBER_TESTS).2
  have WB := (Classical.choose_spec T.g_BARE_TESTS).2
  refine ⟨fun σ' H' => ∃ k, x = .str k ∧ inV (.str k) l8 = true ∧ σ' = [some x, some g] ∧ Same H H', ?_, ?_⟩
  · rcases pt_one hp with ⟨⟨t, ty, e⟩, ho⟩ | ⟨k, rfl, h8, ho⟩ | ⟨k, rfl, h8⟩
    · refine ⟨_, rfl, _, _, _, _, false, rfl, .ty "str", ty, e, false, rfl, ?_⟩
      refine ify rfl (ifT ?_)
      exact ⟨rfl, fun d H2 hd ex sm => qe _ ho d H2 sm ex⟩
    · refine ⟨_, rfl, _, _, _, _, true, rfl, .ty "str", .base (.str _), kit_ty (by decide +kernel), true, rfl, ?_⟩
      refine ifn rfl ?_
      refine ⟨_, rfl, _, _, rfl, .inl (W4 H), _, _, rfl, .inl (W2 H), _, _, rfl, .inl (WB H), szB (by decide), fun tp htp => ?_⟩
      refine ⟨tp, l8, rfl, .inr (SqT.of upd_same), rfl, by decide, _, rfl, ?_⟩
      rw [h8]
      refine ify rfl ?_
      exact ⟨rfl, fun d H2 hd ex sm => qe _ ho d H2 (Same.trans (same_new (fun _ _ z => z) htp _) sm) ex⟩
    · refine ⟨_, rfl, _, _, _, _, true, rfl, .ty "str", .base (.str _), kit_ty (by decide +kernel), true, rfl, ?_⟩
      refine ifn rfl ?_
      refine ⟨_, rfl, _, _, rfl, .inl (W4 H), _, _, rfl, .inl (W2 H), _, _, rfl, .inl (WB H), szB (by decide), fun tp htp => ?_⟩
      refine ⟨tp, l8, rfl, .inr (SqT.of upd_same), rfl, by decide, _, rfl, ?_⟩
      rw [h8]
      refine ifn rfl ?_
      exact ⟨k, rfl, h8, rfl, same_new (fun _ _ z => z) htp _⟩
  rintro σ' H1 ⟨k, rfl, h8, rfl, s1⟩
  have two := pt_two hp h8
  refine ⟨fun σ' H' => σ' = [some (.str k), some g] ∧ Same H H' ∧ (inV (.str k) l4 = true → o = none), ?_, ?_⟩
  · rcases two with ⟨c1, _, _, z⟩ | ⟨c1, _, _, _⟩ | ⟨c1, _, _, _⟩
    · refine ⟨_, rfl, _, l4, rfl, .inr (W4 H1), rfl, by decide, _, rfl, ?_⟩
      rw [c1]
      refine ify rfl ?_
      rcases z with ⟨hb, ho⟩ | ⟨⟨l, rfl, hl, hw⟩, ho⟩
      · rcases hb with hb | ⟨l, rfl, hl, hw⟩
        · refine ⟨_, rfl, _, rfl, .inr ⟨hb.sm s1, false, rfl, ?_⟩⟩
          refine ify rfl ?_
          exact ⟨rfl, fun d H2 hd ex sm => qe _ ho d H2 (Same.trans s1 sm) ex⟩
        · refine ⟨_, rfl, _, rfl, .inl ⟨l, rfl, hl, fun H2 s2 => ⟨_, rfl, ?_⟩⟩⟩
          rw [hw]
          refine ify rfl ?_
          exact ⟨rfl, fun d H3 hd ex sm => qe _ ho d H3 (Same.trans s1 (Same.trans s2 sm)) ex⟩
      · refine ⟨_, rfl, _, rfl, .inl ⟨l, rfl, hl, fun H2 s2 => ⟨_, rfl, ?_⟩⟩⟩
        rw [hw]
        refine ifn rfl ?_
        exact ⟨rfl, Same.trans s1 s2, fun _ => ho⟩
    · refine ⟨_, rfl, _, l4, rfl, .inr (W4 H1), rfl, by decide, _, rfl, ?_⟩
      rw [c1]
      exact ifn rfl (ifF ⟨rfl, s1, fun z => nomatch z⟩)
    · refine ⟨_, rfl, _, l4, rfl, .inr (W4 H1), rfl, by decide, _, rfl, ?_⟩
      rw [c1]
      exact ifn rfl (ifF ⟨rfl, s1, fun z => nomatch z⟩)
  rintro σ' H2 ⟨rfl, s2, o4⟩
  refine ⟨fun σ' H' => σ' = [some (.str k), some g] ∧ Same H H' ∧ (inV (.str k) lB = false → o = none), ?_, ?_⟩
  · rcases two with ⟨c1, c2, c3, _⟩ | ⟨c1, c2, c3, lo, hi, hk, z⟩ | ⟨c1, c2, c3, _⟩
    · refine ⟨_, rfl, _, l2, rfl, .inr (W2 H2), rfl, by decide, _, rfl, ?_⟩
      rw [c2]
      exact ifn rfl (ifF ⟨rfl, s2, fun _ => o4 c1⟩)
    · refine ⟨_, rfl, _, l2, rfl, .inr (W2 H2), rfl, by decide, _, rfl, ?_⟩
      rw [c2]
      refine ify rfl ?_
      obtain ⟨ba, bb, kd, qa, qb⟩ := (Classical.choose_spec T.g_BOUNDS).2
      obtain ⟨aa, ha, qq⟩ : ∃ aa : Addr, (fun z => if z = ("short" : Str) then some (V.ref ba) else if z = ("number" : Str) then some (V.ref bb) else none) k = some (.ref aa) ∧ ∀ H : Hp, SqT K H aa [.int lo, .int hi] := by
        rcases hk with ⟨rfl, rfl, rfl⟩ | ⟨rfl, rfl, rfl⟩
        · exact ⟨ba, if_pos rfl, qa⟩
        · exact ⟨bb, (if_neg (by decide)).trans (if_pos rfl), qb⟩
      rcases z with ⟨hb, ho⟩ | ⟨⟨i, rfl, h1, h2⟩, ho⟩
      · rcases hb with hb | ⟨i, rfl, hb⟩
        · refine ⟨_, rfl, _, _, rfl, kd, _, rfl, k, _, rfl, ha, _, aa, lo, hi, rfl, qq H2, .inl ⟨hb.sm s2, false, rfl, ?_⟩⟩
          refine ify rfl ?_
          exact ⟨_, rfl, _, rfl, rfl, fun d H3 hd ex sm => qe _ ho d H3 (Same.trans s2 sm) ex⟩
        · refine ⟨_, rfl, _, _, rfl, kd, _, rfl, k, _, rfl, ha, _, aa, lo, hi, rfl, qq H2, .inr ⟨i, rfl, _, rfl, ?_⟩⟩
          have e : (decide (lo ≤ i) && decide (i ≤ hi)) = false := by
            rcases hb with hb | hb
            · rw [decide_eq_false (by omega : ¬ lo ≤ i), Bool.false_and]
            · rw [decide_eq_false (by omega : ¬ i ≤ hi), Bool.and_false]
          rw [e]
          refine ify rfl ?_
          exact ⟨_, rfl, _, rfl, rfl, fun d H3 hd ex sm => qe _ ho d H3 (Same.trans s2 sm) ex⟩
      · refine ⟨_, rfl, _, _, rfl, kd, _, rfl, k, _, rfl, ha, _, aa, lo, hi, rfl, qq H2, .inr ⟨i, rfl, _, rfl, ?_⟩⟩
        rw [decide_eq_true h1, decide_eq_true h2]
        refine ifn rfl ?_
        exact ⟨rfl, s2, fun _ => ho⟩
    · refine ⟨_, rfl, _, l2, rfl, .inr (W2 H2), rfl, by decide, _, rfl, ?_⟩
      rw [c2]
      exact ifn rfl (ifF ⟨rfl, s2, fun z => nomatch (c3.symm.trans z)⟩)
  rintro σ' H3 ⟨rfl, s3, o2⟩
  refine ⟨fun σ' H' => σ' = [some (.str k), some g] ∧ Same H H' ∧ o = none, ?_, ?_⟩
  · rcases two with ⟨c1, c2, c3, _⟩ | ⟨c1, c2, c3, _⟩ | ⟨c1, c2, c3, z⟩
    · refine ⟨_, rfl, _, lB, rfl, .inr (WB H3), rfl, by decide, _, rfl, ?_⟩
      rw [c3]
      exact ifn rfl (ifF ⟨rfl, s3, o2 c3⟩)
    · refine ⟨_, rfl, _, lB, rfl, .inr (WB H3), rfl, by decide, _, rfl, ?_⟩
      rw [c3]
      exact ifn rfl (ifF ⟨rfl, s3, o2 c3⟩)
    · refine ⟨_, rfl, _, lB, rfl, .inr (WB H3), rfl, by decide, _, rfl, ?_⟩
      rw [c3]
      refine ify rfl ?_
      rcases z with ⟨hg, ho⟩ | ⟨rfl, ho⟩
      · refine ⟨_, rfl, rfl, _, rfl, ?_⟩
        rw [decide_eq_false hg]
        refine ify rfl ?_
        exact ⟨rfl, fun d H4 hd ex sm => qe _ ho d H4 (Same.trans s3 sm) ex⟩
      · exact ⟨_, rfl, rfl, _, rfl, ifn rfl ⟨rfl, s3, ho⟩⟩
  rintro σ' H4 ⟨rfl, s4, ho⟩
  refine ⟨_, rfl, _, rfl, sz_2, fun pa hpa a dx h1 h2 ne => ?_⟩
  have ne1 : pa ≠ dx := ne_of_none upd_same h2
  have ne2 : pa ≠ a := ne_of_none upd_same h1
  refine ⟨a, dx, pa, k, g, .non, .non, false, rfl, upd_same, by rw [upd_ne ne2, upd_ne ne1]; exact upd_same, rfl, ?_⟩
  exact qo ho _ a k rfl (made_same (same_new s4 hpa _) h1 h2) ⟨dx, upd_same⟩

end
end Vf

set_option maxRecDepth 100000
set_option maxHeartbeats 4000000
namespace Vf
open PySem PySem.Spec PyProof.Rows L2 SX
section
variable {P : Program} {w : World} {K : PySem.W.Frag} {mg : Str → Option Value} {base : Heap}
theorem ok_quoted {f : Addr} {fd : FuncData} (F : C8.Def K mg "_law_quoted" s_quoted f fd) (b : Binds K fd ["_law_word"] []) : C8.Cal P w K mg base 1 "_law_quoted" sp_quoted [] := by
  refine ⟨⟨f, fd, ["_law_word"], [], ?_, F.mgf, F.kp, b, .nil⟩⟩
  obtain ⟨oc, od, dV, kV, doc, pm, an, cdv, ct, osl, rfl, lk, hcd⟩ := F.fn.ex
  refine fn_ofT lk hcd sc_quoted (by decide +kernel) (by decide) (fun vs H Q E h => ?_) (fun A outer s H vs Q E hr h => ?_)
  · obtain ⟨w, rfl, _⟩ := h; rfl
  obtain ⟨l, rfl, hl, q⟩ := h
  have b1 := flat_le (rep1_le 92 92 92) l
  have b2 := flat_le (rep1_le 34 92 34) (l.flatMap (rep1 92 [92, 92]))
  have b3 := flat_le (rep1_le 10 92 110) ((l.flatMap (rep1 92 [92, 92])).flatMap (rep1 34 [92, 34]))
  have e1 : Txt.replace (S l) (Str.ofString "\\") (Str.ofString "\\\\") = S (l.flatMap (rep1 92 [92, 92])) := repl1 (by decide) _ _
  have e2 : Txt.replace (S (l.flatMap (rep1 92 [92, 92]))) (Str.ofString "\"") (Str.ofString "\\\"") = S ((l.flatMap (rep1 92 [92, 92])).flatMap (rep1 34 [92, 34])) := repl1 (by decide) _ _
  have e3 : Txt.replace (S ((l.flatMap (rep1 92 [92, 92])).flatMap (rep1 34 [92, 34]))) (Str.ofString "\n") (Str.ofString "\\n") = S (((l.flatMap (rep1 92 [92, 92])).flatMap (rep1 34 [92, 34])).flatMap (rep1 10 [92, 110])) := repl1 (by decide) _ _
  refine ⟨_, CwR.psst_one (CwR.pst_ret (CwR.pet_op op_add_str (CwR.pet_op op_add_str (CwR.PET.of pe_str) (CwR.pet_replT (CwR.pet_replT (CwR.pet_replC (pv 0))))) (CwR.PET.of pe_str))), ?_⟩
  refine ⟨_, rfl, S l, rfl, ?_, S (l.flatMap (rep1 92 [92, 92])), congrArg V.str e1, ?_, S ((l.flatMap (rep1 92 [92, 92])).flatMap (rep1 34 [92, 34])), congrArg V.str e2, ?_, S [34], S (l.flatMap esc1), rfl, ?_, ?_, S (34 :: l.flatMap esc1), S [34], ?_, rfl, ?_, ?_⟩
  · rw [S_len]
    show l.length + (l.length + 1) * 2 ≤ 16777216
    omega
  · rw [S_len]
    show (l.flatMap (rep1 92 [92, 92])).length + ((l.flatMap (rep1 92 [92, 92])).length + 1) * 2 ≤ 16777216
    omega
  · rw [S_len]
    show ((l.flatMap (rep1 92 [92, 92])).flatMap (rep1 34 [92, 34])).length + (((l.flatMap (rep1 92 [92, 92])).flatMap (rep1 34 [92, 34])).length + 1) * 2 ≤ 16777216
    omega
  · rw [← esc_three]
    exact congrArg V.str e3
  · have := esc_len l
    rw [S_len, S_len]
    exact szB (by show 1 + _ ≤ 1000000; omega)
  · rw [S_cat]; rfl
  · have := esc_len l
    rw [S_len, S_len]
    exact szB (by show (l.flatMap esc1).length + 1 + 1 ≤ 1000000; omega)
  · rw [S_cat]
    exact q

end
end Vf

set_option maxRecDepth 100000
set_option maxHeartbeats 4000000
namespace Vf
open PySem PySem.Spec PyProof.Rows L2 SX
section
variable {P : Program} {w : World} {K : PySem.W.Frag} {mg : Str → Option Value} {base : Heap}
theorem mean_get (e : Nat) : (kd_MEANINGS (S [e])).getD (.str (Str.ofString "")) = .str (match mean e with | some m => S [m] | none => S []) := by
  have h : ∀ d : Nat, (S [e] = S [d]) ↔ e = d := fun d => ⟨fun z => (List.cons.inj (S_inj z)).1, fun z => by rw [z]⟩
  show (if S [e] = S [34] then some (V.str (S [34])) else if S [e] = S [92] then some (V.str (S [92])) else if S [e] = S [110] then some (V.str (S [10])) else none).getD (.str (S [])) = _
  unfold mean
  by_cases h1 : e = 34
  · rw [if_pos ((h 34).mpr h1), if_pos h1]; rfl
  · rw [if_neg (fun z => h1 ((h 34).mp z)), if_neg h1]
    by_cases h2 : e = 92
    · rw [if_pos ((h 92).mpr h2), if_pos h2]; rfl
    · rw [if_neg (fun z => h2 ((h 92).mp z)), if_neg h2]
      by_cases h3 : e = 110
      · rw [if_pos ((h 110).mpr h3), if_pos h3]; rfl
      · rw [if_neg (fun z => h3 ((h 110).mp z)), if_neg h3]; rfl
theorem mean_nil : (kd_MEANINGS (S [])).getD (.str (Str.ofString "")) = .str (S []) := by decide +kernel
theorem ones_snoc (acc : List Nat) (c : Nat) : (acc.map fun c => V.str (S [c])) ++ [V.str (S [c])] = ((acc ++ [c]).map fun c => V.str (S [c])) := by
  rw [List.map_append]; rfl
theorem qRead_at (a0 : Nat) {l : List Nat} {pl : Nat} (h : pl < l.length) (acc : List Nat) : qRead a0 (l.drop pl) pl acc = qRead a0 (l[pl] :: l.drop (pl + 1)) pl acc := by
  rw [List.drop_eq_getElem_cons h]
theorem ok_quotedAt {f : Addr} {fd : FuncData} (F : C8.Def K mg "quoted_at" s_quotedAt f fd) (b : Binds K fd ["line", "at"] []) (T : Tx K w mg)  : C8.Cal P w K mg base 1 "quoted_at" sp_quotedAt [] := by
  refine C8.cal0 F b .nil sc_quotedAt (fun vs H Q E h => ?_) (fun cdv A outer s H vs Q E hr h => ?_)
  · obtain ⟨l, i, rfl, _⟩ := h; rfl
  have hu := hu_of hr
  refine ⟨_, (pss_cons (ps_set (i := 2) sc_quotedAt.nd rfl (Or.inl rfl) (pe_lst pa_nil))
      (pss_cons (ps_set (i := 3) sc_quotedAt.nd rfl (Or.inl rfl) (pe_op op_add (pv 1) pe_int))
      (pss_cons (ps_while PassesOwn.never (pt_cmpR op_lt (pv 3) (pe_callB call_len (by rfl) T.z_len PySem.boot_len (pa_cons (pv 0) pa_nil)) (nomark _))
      (pss_cons (ps_set (i := 4) sc_quotedAt.nd rfl (Or.inl rfl) (pe_ix ix_str (pv 0) (pv 3) (fun _ _ => rfl)))
      (pss_cons (ps_if (pt_cmpR op_eq (pv 4) pe_str (nomark _))
      (pss_one (ps_ret (pe_tup (pa_cons pe_str (pa_cons (pe_join pe_str (pv 2)) (pa_cons (pe_op op_add (pv 3) pe_int) pa_nil))))))
      pss_nil)
      (C8.pss_cut (ps_if (pt_cmpR op_eq (pv 4) pe_str (nomark _))
      (pss_cons (ps_set (i := 4) sc_quotedAt.nd rfl (Or.inl rfl) (pe_kget (K := K) (w := w) rfl rfl (C8.pe_gc rfl (Classical.choose_spec T.g_MEANINGS).1) (pe_slice C8.sl_txt (pv 0) (po_some (pe_op op_add (pv 3) pe_int)) (po_some (pe_op op_add (pv 3) pe_int))) pe_str ⟨rfl, rfl, rfl, rfl⟩))
      (pss_cons (ps_if (pt_not (pt_truth (pv 4) (by intro _; rfl)))
      (pss_one (ps_ret (pe_tup (pa_cons pe_str (pa_cons (pe_op op_add (pv 3) pe_int) (pa_cons (pv 3) pa_nil))))))
      pss_nil)
      (pss_one (ps_aug (i := 3) sc_quotedAt.nd rfl (Or.inl rfl) pe_int ip_add))))
      (pss_one (ps_if (pt_cmpR op_notIn_sign (pv 4) (C8.pe_gc rfl T.g_SIGNS) rfl)
      (pss_one (ps_ret (pe_tup (pa_cons pe_str (pa_cons (pe_op op_add (pv 3) pe_int) (pa_cons (pv 3) pa_nil))))))
      pss_nil)))
      (pss_cons (ps_expr (pe_bm PySem.F.plainAttrs_list PySem.F.slot_list_append PySem.F.type_list_append mt_append (pv 2) (pa_cons (pv 4) pa_nil)))
      (pss_one (ps_aug (i := 3) sc_quotedAt.nd rfl (Or.inl rfl) pe_int ip_add)))))))
      (pss_one (ps_ret (pe_tup (pa_cons pe_str (pa_cons (pe_op op_add (pv 1) pe_int) (pa_cons (pv 3) pa_nil))))))))), ?_⟩

  obtain ⟨l, i, rfl, hl, hi, q⟩ := h
  have hS : ∀ j : Nat, j < l.length → ∀ pos : Nat, True := fun _ _ _ => trivial
  refine ⟨Nat.zero_le _, fun sA nA => ?_⟩
  refine ⟨_, rfl, _, _, rfl, rfl, ?_⟩
  have fin3 : ∀ (w : W3) (H1 : Hp), Same H H1 → w3Post w H Q → ∀ p, H1 p = none → Q (.ref p) (upd H1 p (.tup (w3V w))) := fun w H1 s1 hw p np => hw _ p (same_new s1 np _) upd_same
  refine while_by (fun σ' H' => ∃ (pl : Nat) (acc : List Nat) (v4 : Option V), σ' = [some (.str (S l)), some (.int (i : Int)), some (.ref sA), some (.int (pl : Int)), v4] ∧ Same H H' ∧ H' sA = some (.lst (acc.map fun c => V.str (S [c]))) ∧ acc.length ≤ pl ∧ pl ≤ l.length ∧ qRead i (l.drop pl) pl acc = qRead i (l.drop (i + 1)) (i + 1) []) (fun σ' _ => l.length - (match σ' with | [_, _, _, some (.int z), _] => z.toNat | _ => 0)) ⟨i + 1, [], none, rfl, same_new (Same.refl H) nA _, upd_same, Nat.zero_le _, hi, rfl⟩ ?_ ?_
  · rintro σ' H' ⟨pl, acc, v4, rfl, s1, hA, hac, hpl, e⟩
    refine ⟨_, rfl, _, rfl, _, l.length, rfl, ⟨by rw [S_len]; exact szB (by omega), by rw [S_len]⟩, _, _, rfl, rfl, _, rfl, ?_⟩
    refine ite2 (fun e1 => ?_) (fun e1 => ?_)
    · have e1' : (pl : Int) < (l.length : Int) := of_decide_eq_true e1
      have hj : pl < l.length := by omega
      have gc : l[pl]? = some l[pl] := List.getElem?_eq_getElem hj
      rw [qRead_at i hj] at e
      generalize l[pl] = ch at gc e
      rw [qRead_cons] at e
      rw [← e] at q
      refine ⟨_, rfl, _, rfl, S l, _, ch, rfl, rfl, by rw [S_len]; exact szB (by omega), atI_nat gc, ?_⟩
      -- a quote mark
      refine ⟨_, rfl, rfl, _, rfl, ?_⟩
      refine ite2 (fun e2 => ?_) (fun e2 => ?_)
      · have e2' : ch = 34 := of_decide_eq_true ((eq1 ch 34).symm.trans e2)
        rw [if_pos e2'] at q
        refine ⟨⟨_, rfl⟩, _, rfl, S [], sA, acc.map fun c => S [c], rfl, rfl, .inl (SqL.of (by rw [hA, List.map_map]; rfl)), ones_bound (by omega), _, rfl, _, _, rfl, rfl, sz_3, fun p np => ?_⟩
        rw [join_ones]
        exact fin3 _ H' s1 q p np
      · have e2' : ¬ ch = 34 := fun z => e2 ((eq1 ch 34).trans (decide_eq_true z))
        rw [if_neg e2'] at q e
        refine ⟨fun σ' H2 => ∃ (pl' m : Nat), σ' = [some (.str (S l)), some (.int (i : Int)), some (.ref sA), some (.int (pl' : Int)), some (.str (S [m]))] ∧ H2 = H' ∧ pl ≤ pl' ∧ pl' < l.length ∧ qRead i (l.drop (pl' + 1)) (pl' + 1) (acc ++ [m]) = qRead i (l.drop (i + 1)) (i + 1) [], ?_, ?_⟩
        · refine ⟨_, rfl, rfl, _, rfl, ?_⟩
          have fb : w3Post ("bad quoted", .int ((pl : Int) + 1), pl) H Q → ∀ p, H' p = none → Q (.ref p) (upd H' p (.tup [.str "bad quoted", .int ((pl : Int) + 1), .int (pl : Int)])) := fun hw p np => fin3 _ H' s1 hw p np
          refine ite2 (fun e3 => ?_) (fun e3 => ?_)
          · have e3' : ch = 92 := of_decide_eq_true ((eq1 ch 92).symm.trans e3)
            rw [if_pos e3'] at q e
            refine ⟨_, _, rfl, (Classical.choose_spec T.g_MEANINGS).2, _, rfl, _, rfl, _, _, rfl, rfl, _, rfl, _, rfl, _, _, rfl, rfl, _, rfl, S l, rfl, by rw [S_len]; exact szB (by omega), _, rfl, ?_⟩
            have es : Txt.slice (S l) (some ((pl : Int) + 1)) (some ((pl : Int) + 2)) = S ((l.drop (pl + 1)).take 1) := by
              have z := slice2 (a := l) (show pl + 1 ≤ pl + 2 by omega)
              rw [show pl + 2 - (pl + 1) = 1 by omega] at z
              exact z
            rw [es]
            by_cases hx : pl + 1 < l.length
            · rw [List.drop_eq_getElem_cons hx] at q e ⊢
              generalize l[pl + 1] = e5 at q e
              show tSeq _ _ _ [_, _, _, _, some ((kd_MEANINGS (S [e5])).getD (.str (Str.ofString "")))] H'
              rw [mean_get e5]
              cases hm : mean e5 with
              | none =>
                dsimp only at q
                rw [hm] at q
                refine ⟨_, rfl, false, ⟨Nat.zero_le _, rfl⟩, ?_⟩
                exact ⟨_, rfl, _, _, rfl, rfl, _, rfl, sz_3, fb q⟩
              | some m =>
                dsimp only at e
                rw [hm] at e
                refine ⟨_, rfl, true, ⟨sz_1, rfl⟩, ?_⟩
                exact ⟨_, rfl, _, _, rfl, rfl, pl + 1, m, rfl, rfl, by omega, hx, e⟩
            · rw [List.drop_eq_nil_of_le (show l.length ≤ pl + 1 by omega)] at q ⊢
              show tSeq _ _ _ [_, _, _, _, some ((kd_MEANINGS (S [])).getD (.str (Str.ofString "")))] H'
              rw [mean_nil]
              refine ⟨_, rfl, false, ⟨Nat.zero_le _, rfl⟩, ?_⟩
              exact ⟨_, rfl, _, _, rfl, rfl, _, rfl, sz_3, fb q⟩
          · have e3' : ¬ ch = 92 := fun z => e3 ((eq1 ch 92).trans (decide_eq_true z))
            rw [if_neg e3'] at q e
            refine ⟨_, rfl, ch, _, rfl, rfl, _, rfl, ?_⟩
            by_cases hs : ch ∈ signsL
            · rw [if_pos hs] at e
              rw [show decide (ch ∈ (S signsL).cps.toList) = true from decide_eq_true hs]
              refine iteF ?_
              exact ⟨pl, ch, rfl, rfl, Nat.le_refl _, hj, e⟩
            · rw [if_neg hs] at q
              rw [show decide (ch ∈ (S signsL).cps.toList) = false from decide_eq_false hs]
              refine iteT ?_
              exact ⟨_, rfl, _, _, rfl, rfl, _, rfl, sz_3, fb q⟩
        · rintro σ' H2 ⟨pl', m, rfl, rfl, hp1, hp2, e6⟩
          refine ⟨_, rfl, .inl ⟨rfl, _, .inl (.inl hA)⟩, _, rfl, sA, _, _, rfl, rfl, hA, szL (by rw [List.length_map]; omega), ?_⟩
          refine ⟨_, rfl, _, _, rfl, rfl, ⟨pl' + 1, acc ++ [m], _, rfl, same_upd s1 nA _, ?_, ?_, by omega, e6⟩, ?_⟩
          · rw [upd_same, ones_snoc]
          · rw [List.length_append, List.length_singleton]; omega
          · show l.length - ((pl' : Int) + 1).toNat < l.length - ((pl : Int)).toNat
            omega
    · have e1' : ¬ (pl : Int) < (l.length : Int) := of_decide_eq_false (Bool.eq_false_iff.mpr e1)
      rw [List.drop_eq_nil_of_le (by omega)] at e
      rw [← e] at q
      have epl : pl = l.length := by omega
      refine ⟨_, rfl, _, _, rfl, rfl, _, rfl, sz_3, fun p np => fin3 _ H' s1 q p np⟩
  · rintro σ' H' Q1 Q2 hq ⟨v, hv, x, hx, y, n, e, hn, i1, j1, e1, e2, k, e3, h⟩
    exact ⟨v, hv, x, hx, y, n, e, hn, i1, j1, e1, e2, k, e3, hq _ _ h⟩

end
end Vf

set_option maxRecDepth 100000
set_option maxHeartbeats 4000000
namespace Vf
open PySem PySem.Spec PyProof.Rows L2 SX
section
variable {P : Program} {w : World} {K : PySem.W.Frag} {mg : Str → Option Value} {base : Heap}
theorem ok_WordReader_quoted {f : Addr} {fd : FuncData} {q : Str} {CR CT : Addr} (A0 : CaR K CR) (me : Meth K CR "quoted" f) (F : C8.Fun K "quoted" q s_WordReader_quoted f fd) (b : Binds K fd ["self"] []) (T : Tx K w mg)
    (C_WordReader_taken : MetX P w K mg base 4 CR "_taken" (sp_WordReader_taken CR CT)) : MetX P w K mg base 5 CR "quoted" (sp_WordReader_quoted CR CT) := by
  refine metX A0.i.cl me F b sc_WordReader_quoted (fun vs H Q E h => ?_) (fun cdv A outer s H vs Q E hr h => ?_)
  · obtain ⟨r, dn, rs, e, rfl, _⟩ := h; rfl
  have hu := hu_of hr
  refine ⟨_, (pss_one (ps_ret (pe_mx C_WordReader_taken hr (by decide) (takes_of rfl rfl rfl rfl) (pv 0) (pa_cons pe_str pa_nil)))), ?_⟩
  obtain ⟨r, dn, rs, e, rfl, rd, tg, h⟩ := h
  obtain ⟨dx, wt, as, h1, h2, h3, h4⟩ := id rd
  exact ⟨_, rfl, r, dx, _, rfl, h1, rfl, r, dn, rs, e, "quoted", rfl, .inl rfl, rd, tg, h⟩
theorem ok_WordReader_whole {f : Addr} {fd : FuncData} {q : Str} {CR CT : Addr} (A0 : CaR K CR) (me : Meth K CR "whole" f) (F : C8.Fun K "whole" q s_WordReader_whole f fd) (b : Binds K fd ["self"] []) (T : Tx K w mg)
    (C_WordReader_taken : MetX P w K mg base 4 CR "_taken" (sp_WordReader_taken CR CT)) : MetX P w K mg base 5 CR "whole" (sp_WordReader_whole CR CT) := by
  refine metX A0.i.cl me F b sc_WordReader_whole (fun vs H Q E h => ?_) (fun cdv A outer s H vs Q E hr h => ?_)
  · obtain ⟨r, dn, rs, e, rfl, _⟩ := h; rfl
  have hu := hu_of hr
  refine ⟨_, (pss_one (ps_ret (pe_mx C_WordReader_taken hr (by decide) (takes_of rfl rfl rfl rfl) (pv 0) (pa_cons pe_str pa_nil)))), ?_⟩
  obtain ⟨r, dn, rs, e, rfl, rd, tg, h⟩ := h
  obtain ⟨dx, wt, as, h1, h2, h3, h4⟩ := id rd
  exact ⟨_, rfl, r, dx, _, rfl, h1, rfl, r, dn, rs, e, "number", rfl, .inr rfl, rd, tg, h⟩
theorem ok_WordReader_finish {f : Addr} {fd : FuncData} {q : Str} {CR CT : Addr} (A0 : CaR K CR) (me : Meth K CR "finish" f) (F : C8.Fun K "finish" q s_WordReader_finish f fd) (b : Binds K fd ["self"] []) (T : Tx K w mg)
    (C_WordReader_refuse : MetX P w K mg base 3 CR "refuse" (sp_WordReader_refuse CR CT)) : MetX P w K mg base 4 CR "finish" (sp_WordReader_finish CR CT) := by
  refine metX A0.i.cl me F b sc_WordReader_finish (fun vs H Q E h => ?_) (fun cdv A outer s H vs Q E hr h => ?_)
  · obtain ⟨r, dn, e, rfl, _⟩ := h; rfl
  have hu := hu_of hr
  refine ⟨_, (pss_one (ps_if (pt_cmpR op_lt (pe_fld (pv 0) rfl) (pe_callB call_len (by rfl) T.z_len PySem.boot_len (pa_cons (pe_fld (pv 0) rfl) pa_nil)) (nomark _))
      (pss_one (ps_expr (pe_mx C_WordReader_refuse hr (by decide) (takes_of rfl rfl rfl rfl) (pv 0) (pa_cons pe_str pa_nil))))
      pss_nil)), ?_⟩
  obtain ⟨r, dn, e, rfl, ⟨dx, wt, as, h1, h2, h3, h4⟩, q⟩ := h
  have cl := A0.i.cl
  have la := RdAt.ln h3
  refine ⟨_, rfl, r, CR, dx, _, _, rfl, h1, cl, A0.a4, rfl, _, rfl, r, CR, dx, _, _, rfl, h1, cl, A0.a1, rfl, _, as.length, rfl, .inr ⟨_, SqT.of h2, (List.length_map ..).symm⟩, _, _, rfl, rfl, _, rfl, ?_⟩
  exact ifn (decide_eq_false (by rw [la, List.append_nil]; omega)) q
theorem ok_WordReader_init {f : Addr} {fd : FuncData} {q : Str} {CR : Addr} (A0 : CaR K CR) (M : Mk K CR f) (g : mg "WordReader" = some (.ref CR)) (F : C8.Fun K "__init__" q s_WordReader_init f fd) (b : Binds K fd ["self", "line", "number"] []) (T : Tx K w mg)
    (C_lineWords : C8.Cal P w K mg base 4 "line_words" sp_lineWords []) : C8.Mak P w K mg base 5 "WordReader" CR (sp_WordReader_init CR) [] := by
  refine C8.mak0 M g F b .nil sc_WordReader_init (fun vs H Q E h => ?_) (fun cdv A outer s H vs Q E hr h => ?_)
  · obtain ⟨a, dx, l, rfl, _⟩ := h; rfl
  have hu := hu_of hr
  refine ⟨_, (pss_cons (ps_fld (pv 0) (C8.pe_c C_lineWords hr (by decide) rfl (pa_cons (pv 1) pa_nil)) rfl)
      (pss_cons (ps_fld (pv 0) (pv 2) rfl)
      (pss_cons (ps_fld (pv 0) (pe_op op_add (pe_callB call_len (by rfl) T.z_len PySem.boot_len (pa_cons (pv 1) pa_nil)) pe_int) rfl)
      (pss_one (ps_fld (pv 0) pe_int rfl))))), ?_⟩
  obtain ⟨a, dx, l, rfl, ha, hl, q⟩ := h
  have cl := A0.i.cl
  refine ⟨_, rfl, l, rfl, hl, fun H1 t as ws s1 ht hp hlex => ?_⟩
  have na : t ≠ a := fun z => by rw [z, s1 _ _ ha] at ht; cases ht
  refine ⟨_, rfl, a, CR, dx, [], rfl, s1 _ _ ha, cl, A0.a1, by decide, ?_⟩
  refine ⟨_, rfl, _, rfl, a, CR, dx, _, rfl, upd_same, cl, A0.a2, (by decide : (1 : Nat) < 1000), ?_⟩
  refine ⟨_, rfl, _, l.length, rfl, ⟨by rw [S_len]; exact szB (by omega), by rw [S_len]⟩, _, _, rfl, rfl, _, rfl, a, CR, dx, _, rfl, upd_same, cl, A0.a3, (by decide : (2 : Nat) < 1000), ?_⟩
  refine ⟨_, rfl, a, CR, dx, _, rfl, upd_same, cl, A0.a4, (by decide : (3 : Nat) < 1000), ?_⟩
  show Q .non _
  rw [upd_upd, upd_upd, upd_upd]
  have sx : SmX a H1 (upd H1 a (.ins CR dx (rF t (l.length + 1) 0))) := fun b o n e => by rw [upd_ne n]; exact e
  exact q _ ws ((SmX.of s1).trans sx) ⟨dx, t, as, upd_same, sx _ _ na ht, L2.Paired.mapP hp fun c w z => sx _ _ (fun y => by rw [y, s1 _ _ ha] at z; cases z) z, trivial⟩ hlex

end
end Vf

set_option maxRecDepth 100000
set_option maxHeartbeats 4000000
namespace Vf
open PySem PySem.Spec PyProof.Rows L2 SX
section
variable {P : Program} {w : World} {K : PySem.W.Frag} {mg : Str → Option Value} {base : Heap}
theorem esc_get (e : Nat) : (kd_ESCAPES (S [e])).getD (.str (S [e])) = .str (S (esc1 e)) := by
  have h : ∀ d : Nat, (S [e] = S [d]) ↔ e = d := fun d => ⟨fun z => (List.cons.inj (S_inj z)).1, fun z => by rw [z]⟩
  show (if S [e] = S [34] then some (V.str (S [92, 34])) else if S [e] = S [92] then some (V.str (S [92, 92])) else if S [e] = S [10] then some (V.str (S [92, 110])) else none).getD (.str (S [e])) = _
  unfold esc1
  by_cases h1 : e = 34
  · subst h1; rfl
  · rw [if_neg (fun z => h1 ((h 34).mp z))]
    by_cases h2 : e = 92
    · subst h2; rfl
    · rw [if_neg (fun z => h2 ((h 92).mp z)), if_neg h2, if_neg h1]
      by_cases h3 : e = 10
      · subst h3; rfl
      · rw [if_neg (fun z => h3 ((h 10).mp z)), if_neg h3]; rfl
theorem joinL_nil : ∀ xs : List (List Nat), TL.joinL [] xs = xs.flatten
  | [] => rfl
  | [x] => (List.append_nil x).symm
  | x :: y :: r => by
    show x ++ ([] ++ TL.joinL [] (y :: r)) = _
    rw [joinL_nil (y :: r)]
    rfl
theorem ok_quotedText {f : Addr} {fd : FuncData} (F : C8.Def K mg "quoted_text" s_quotedText f fd) (b : Binds K fd ["word"] []) (T : Tx K w mg)  : C8.Cal P w K mg base 1 "quoted_text" sp_quotedText [] := by
  refine C8.cal0 F b .nil sc_quotedText (fun vs H Q E h => ?_) (fun cdv A outer s H vs Q E hr h => ?_)
  · obtain ⟨w, rfl, _⟩ := h; rfl
  have hu := hu_of hr
  refine ⟨_, (pss_one (ps_ret (pe_op op_add_str (pe_op op_add_str pe_str (pe_join pe_str (pe_lc (own := [("sign", 1)]) (g := (gName 1)) (tt := tYes) rfl sc_quotedText.nd (pi_str (pv 0)) (blkOk_by (N := N_quotedText) (sc := C8.fnScope s_quotedText) (by decide +kernel)) (fun _ _ _ _ _ => pg_name (i := 1) sc_quotedText.nd rfl (Or.inl rfl)) (fun _ _ _ _ _ => pts_nil) (fun _ _ _ _ _ => (pe_kget (K := K) (w := w) rfl rfl (C8.pe_gc rfl (Classical.choose_spec T.g_ESCAPES).1) (pv 1) (pv 1) ⟨rfl, rfl, rfl, rfl⟩))))) pe_str))), ?_⟩

  obtain ⟨t, rfl, hl, q⟩ := h
  have qe := quote_len t
  have he := esc_len t
  refine ⟨⟨_, rfl⟩, _, rfl, S t, rfl, fun D hD => ?_⟩
  refine ⟨fun i m H' => m = t.length - i ∧ i ≤ t.length ∧ Same H H' ∧ H' D = some (.lst ((t.take i).map fun c => V.str (S (esc1 c)))), ⟨t.length, rfl, Nat.zero_le _, same_new (Same.refl H) hD _, upd_same⟩, ?_⟩
  rintro i m H' ⟨rfl, hi, s1, hA⟩
  by_cases hlt : i < t.length
  · refine .inr ⟨hlt, fun H2 => Same H H2 ∧ H2 D = some (.lst ((t.take (i + 1)).map fun c => V.str (S (esc1 c)))), fun H2 ⟨s2, h2⟩ => ⟨t.length - (i + 1), by omega, rfl, hlt, s2, h2⟩, fun x H2 y => ?_⟩
    obtain ⟨rfl, c, hc, rfl⟩ := y
    have hc' : t[i]? = some c := by
      rw [← hc]
      exact (List.getElem?_toArray).symm
    refine ⟨rfl, ?_⟩
    dsimp only [tYes]
    rw [if_pos rfl]
    refine ⟨_, _, rfl, (Classical.choose_spec T.g_ESCAPES).2, _, rfl, _, rfl, _, rfl, ?_⟩
    have e1 : (kd_ESCAPES ⟨#[c]⟩).getD (.str ⟨#[c]⟩) = .str (S (esc1 c)) := esc_get c
    rw [e1]
    refine ⟨_, hA, szL (by rw [List.length_map, List.length_take]; omega), same_upd s1 hD _, ?_⟩
    rw [upd_same, List.take_add_one, hc', List.map_append]
    rfl
  · refine .inl ⟨by show t.toArray.size ≤ i; simp; omega, ?_⟩
    have et : t.take i = t := List.take_of_length_le (by omega)
    rw [et] at hA
    have e2 : Txt.join (S []) (t.map fun c => S (esc1 c)) = S (t.flatMap esc1) := by
      have e3 : (t.map fun c => S (esc1 c)) = (t.map esc1).map S := by rw [List.map_map]; rfl
      rw [e3, join_S, joinL_nil, List.flatMap_def]
    have e4 : ((t.map fun c => S (esc1 c)).map (·.length)).sum = (t.flatMap esc1).length := by
      rw [List.map_map, List.length_flatMap]
      exact congrArg List.sum (List.map_congr_left fun c _ => S_len _)
    refine ⟨S [], D, t.map fun c => S (esc1 c), rfl, rfl, .inl (SqL.of (by rw [hA, List.map_map]; rfl)), ?_, ?_⟩
    · rw [e4]
      show _ + _ * 0 ≤ 16777216
      omega
    · rw [e2]
      refine ⟨S [34], S (t.flatMap esc1), rfl, rfl, by rw [S_len, S_len]; exact szB (by show 1 + _ ≤ 1000000; omega), ?_⟩
      refine ⟨S (34 :: t.flatMap esc1), S [34], by rw [S_cat]; rfl, rfl, by rw [S_len, S_len]; exact szB (by show (t.flatMap esc1).length + 1 + 1 ≤ 1000000; omega), ?_⟩
      rw [S_cat]
      exact q H' s1

end
end Vf

set_option maxRecDepth 100000
set_option maxHeartbeats 4000000
namespace Vf
open PySem PySem.Spec PyProof.Rows L2 SX
section
variable {P : Program} {w : World} {K : PySem.W.Frag} {mg : Str → Option Value} {base : Heap}
theorem NoPl.sm {K : PySem.W.Frag} {CL : Addr} {H H' : Hp} {x : V} (h : NoPl K CL H x) (s : Same H H') : NoPl K CL H' x := h.elim (fun ⟨t, a, b⟩ => .inl ⟨t, tyx_sm s a, b⟩) fun ⟨a, dx, p, u, v, n, e, h, z⟩ => .inr ⟨a, dx, p, u, v, n, e, s _ _ h, z⟩
theorem ok_rangeTest {f : Addr} {fd : FuncData} (F : C8.Def K mg "range_test" s_rangeTest f fd) (b : Binds K fd ["first", "second"] []) (T : Tx K w mg) {CBadText CBadWord CBadNumber CW : Addr} (ES : Es P w K mg base CBadText CBadWord CBadNumber CW) {CL : Addr} (CO : Co P w K mg base CL) (C_isPlain : C8.Cal P w K mg base 1 "is_plain" (sp_isPlain K CL) []) : CalX P w K mg base 3 "range_test" (sp_rangeTest K CL CBadWord CBadNumber) := by
  refine calX F b sc_rangeTest (fun vs H Q E h => ?_) (fun cdv A outer s H vs Q E hr h => ?_)
  · obtain ⟨x, y, rfl, _⟩ := h; rfl
  have hu := hu_of hr
  refine ⟨_, (pss_cons (ps_if (pt_not (pt_val (C8.pe_c C_isPlain hr (by decide) rfl (pa_cons (pv 0) pa_nil))))
      (pss_one (ps_rx ES.r_BadWord hr (by decide) rfl rfl (takes_of rfl rfl rfl rfl) (pa_cons pe_str pa_nil)))
      pss_nil)
      (pss_cons (ps_if (pt_not (pt_val (C8.pe_c C_isPlain hr (by decide) rfl (pa_cons (pv 1) pa_nil))))
      (pss_one (ps_rx ES.r_BadWord hr (by decide) rfl rfl (takes_of rfl rfl rfl rfl) (pa_cons pe_str pa_nil)))
      pss_nil)
      (pss_one (ps_ret (C8.pe_mk CO.m_LineTest hr (by decide) rfl (pa_cons pe_str (pa_cons pe_non (pa_cons (pe_tup (pa_cons (pv 0) (pa_cons (pv 1) pa_nil))) (pa_cons pe_bl pa_nil))))))))), ?_⟩

  obtain ⟨x, y, rfl, h⟩ := h
  rcases h with ⟨hn, he⟩ | ⟨a, dx, p, u, v, rfl, ha, hp, h⟩
  · refine ⟨_, rfl, x, rfl, .inl ⟨hn, false, rfl, ify rfl ?_⟩⟩
    exact ⟨rfl, fun d H2 hd ex sm => he d H2 sm ex⟩
  · refine ⟨_, rfl, _, rfl, .inr ⟨a, dx, p, u, v, rfl, ha, hp, true, rfl, ifn rfl ?_⟩⟩
    rcases h with ⟨hn, he⟩ | ⟨b, dy, p', u', v', rfl, hb, hp', q⟩
    · refine ⟨_, rfl, y, rfl, .inl ⟨hn, false, rfl, ify rfl ?_⟩⟩
      exact ⟨rfl, fun d H2 hd ex sm => he d H2 sm ex⟩
    · refine ⟨_, rfl, _, rfl, .inr ⟨b, dy, p', u', v', rfl, hb, hp', true, rfl, ifn rfl ?_⟩⟩
      refine ⟨_, rfl, _, rfl, sz_2, fun pa hpa c dz h1 h2 ne => ?_⟩
      have ne1 : pa ≠ dz := ne_of_none upd_same h2
      have ne2 : pa ≠ c := ne_of_none upd_same h1
      refine ⟨c, dz, pa, _, _, _, _, false, rfl, upd_same, by rw [upd_ne ne2, upd_ne ne1]; exact upd_same, rfl, ?_⟩
      exact q _ c dz (made_same (same_new (fun _ _ z => z) hpa _) h1 h2) upd_same

end
end Vf

set_option maxRecDepth 100000
set_option maxHeartbeats 4000000
namespace Vf
open PySem PySem.Spec PyProof.Rows L2 SX
section
variable {P : Program} {w : World} {K : PySem.W.Frag} {mg : Str → Option Value} {base : Heap}
theorem ok_readLinetest {f : Addr} {fd : FuncData} {CR CT CL CBadWord CBadNumber : Addr} (CO : CoR P w K mg base CR) (A0 : CaR K CR) (F : C8.Def K mg "read_linetest" s_readLinetest f fd) (b : Binds K fd ["line"] []) (T : Tx K w mg)
    (C_linetestForm : CalX P w K mg base 7 "linetest_form" (sp_linetestForm K CR CT)) (C_WordReader_finish : MetX P w K mg base 4 CR "finish" (sp_WordReader_finish CR CT)) (C_madeLinetest : CalX P w K mg base 5 "made_linetest" (sp_madeLinetest CL CBadWord CBadNumber)) :
    CalX P w K mg base 8 "read_linetest" (sp_readLinetest CL CT CBadWord CBadNumber) := by
  refine calX F b sc_readLinetest (fun vs H Q E h => ?_) (fun cdv A outer s H vs Q E hr h => ?_)
  · obtain ⟨l, ws, o, rs, rfl, _⟩ := h; rfl
  have hu := hu_of hr
  refine ⟨_, (pss_cons (ps_set (i := 1) sc_readLinetest.nd rfl (Or.inl rfl) (C8.pe_mk CO.m_WordReader hr (by decide) rfl (pa_cons (pv 0) (pa_cons pe_int pa_nil))))
      (pss_cons (ps_set (i := 2) sc_readLinetest.nd rfl (Or.inl rfl) (pe_cx C_linetestForm hr (by decide) rfl (takes_of rfl rfl rfl rfl) (pa_cons (pv 1) pa_nil)))
      (pss_cons (ps_expr (pe_mx0 C_WordReader_finish hr (by decide) (takes_of rfl rfl rfl rfl) (pv 1)))
      (pss_one (ps_ret (pe_cx C_madeLinetest hr (by decide) rfl (takes_of rfl rfl rfl rfl) (pa_cons (pv 2) pa_nil))))))), ?_⟩
  obtain ⟨l, ws, o, rs, rfl, hl, hlex, tg, fm, qe, qo⟩ := h
  refine ⟨_, rfl, fun a dx ha hdx ne => ?_⟩
  refine ⟨a, dx, l, rfl, upd_same, hl, fun H1 ws' s1 rd1 lx1 => ?_⟩
  obtain rfl := lex_det lx1 hlex
  have n0 : ∀ {H' : Hp}, SmX a (upd (upd H dx (.own a)) a (.ins CR dx [])) H' → Same H H' := fun s b o z => s b o (ne_of_none z ha) (by rw [upd_ne (ne_of_none z ha), upd_ne (ne_of_none z hdx)]; exact z)
  refine ⟨rfl, _, rfl, a, [], ws', _, o, rs, rfl, rd1, tg, fm, fun fo hfo H2 c dn2 s2 rd2 fa => ?_, fun ho d H' s2 ex => qe ho d H' (n0 (s1.trans s2)) ex⟩
  obtain ⟨rfl, m, md, q, qr⟩ := qo fo hfo
  obtain ⟨dx2, wt2, as2, g2, _⟩ := id rd2
  have s02 := n0 (s1.trans s2)
  refine ⟨_, rfl, a, dx2, _, rfl, g2, rfl, a, dn2, _, rfl, rd2, ?_⟩
  exact ⟨_, rfl, c, fo, m, rfl, fa, md, fun hm H3 b s3 ts => q hm H3 b (Same.trans s02 s3) ts, fun e he => (qr e he).sm s02⟩

end
end Vf

set_option maxRecDepth 100000
set_option maxHeartbeats 4000000
namespace Vf
open PySem PySem.Spec PyProof.Rows L2 SX
section
variable {P : Program} {w : World} {K : PySem.W.Frag} {mg : Str → Option Value} {base : Heap}
theorem bad_ne' {k : Str} {w : W3} (hk : k = "name" ∨ k = "quoted" ∨ k = "number") (tg : TokG w) : w.1 ≠ Str.empty ++ "bad " ++ k := by
  rcases tg with ⟨t, k1, _⟩ | ⟨t, k1, _⟩ | ⟨t, k1, _⟩ <;> rcases hk with h | h | h <;> rw [k1, h] <;> decide
theorem ok_WordReader_refuse {f : Addr} {fd : FuncData} {q : Str} {CR : Addr} (A0 : CaR K CR) (me : Meth K CR "refuse" f) (F : C8.Fun K "refuse" q s_WordReader_refuse f fd) (b : Binds K fd ["self", "kind"] []) (T : Tx K w mg) {CBadText CBadWord CBadNumber CW : Addr} (ES : Es P w K mg base CBadText CBadWord CBadNumber CW) :
    MetX P w K mg base 3 CR "refuse" (sp_WordReader_refuse CR CBadText) := by
  refine metX A0.i.cl me F b sc_WordReader_refuse (fun vs H Q E h => ?_) (fun cdv A outer s H vs Q E hr h => ?_)
  · obtain ⟨r, dn, rs, e, k, rfl, _⟩ := h; rfl
  have hu := hu_of hr
  refine ⟨_, (pss_cons (ps_if (pt_cmpR op_eq (pe_fld (pv 0) rfl) (pe_callB call_len (by rfl) T.z_len PySem.boot_len (pa_cons (pe_fld (pv 0) rfl) pa_nil)) (nomark _))
      (pss_one (ps_rx ES.r_BadText hr (by decide) rfl rfl (takes_of rfl rfl rfl rfl) (pa_cons (pe_fld (pv 0) rfl) (pa_cons (pe_fld (pv 0) rfl) pa_nil))))
      pss_nil)
      (pss_cons (ps_asg (pe_ix ix_tup (pe_fld (pv 0) rfl) (pe_fld (pv 0) rfl) (fun _ _ => rfl)) (pg_tup (by rfl) (pgs_cons (pg_name (i := 2) sc_WordReader_refuse.nd rfl (Or.inl rfl)) (pgs_cons (pg_name (i := 3) sc_WordReader_refuse.nd rfl (Or.inl rfl)) (pgs_cons (pg_name (i := 4) sc_WordReader_refuse.nd rfl (Or.inl rfl)) pgs_nil)))))
      (pss_one (ps_rx ES.r_BadText hr (by decide) rfl rfl (takes_of rfl rfl rfl rfl) (pa_cons (pe_fld (pv 0) rfl) (pa_cons (pe_ifExp (pt_cmpR op_eq (pv 2) (pe_joined (PJ.cons pe_str (PJ.cons (pe_fmt (pv 1)) PJ.nil))) (nomark _)) (pv 3) (pv 4)) pa_nil)))))), ?_⟩
  obtain ⟨r, dn, rs, e, k, rfl, hk, ⟨dx, wt, as, h1, h2, h3, h4⟩, tg, er⟩ := h
  have cl := A0.i.cl
  have la := RdAt.ln h3
  refine ⟨_, rfl, r, CR, dx, _, _, rfl, h1, cl, A0.a4, rfl, _, rfl, r, CR, dx, _, _, rfl, h1, cl, A0.a1, rfl, _, as.length, rfl, .inr ⟨_, SqT.of h2, (List.length_map ..).symm⟩, ?_⟩
  refine ⟨rfl, _, rfl, ?_⟩
  cases rs with
  | nil =>
    refine ify (decide_eq_true (by rw [la, List.append_nil])) ?_
    exact ⟨_, rfl, r, CR, dx, _, _, rfl, h1, cl, A0.a2, rfl, _, rfl, r, CR, dx, _, _, rfl, h1, cl, A0.a3, rfl, rfl, fun d H2 hd ex sm => er d H2 (SmX.of sm) ex⟩
  | cons w rs =>
    obtain ⟨a, e1, e2⟩ := RdAt.hd h3
    refine ifn (decide_eq_false fun z => by
      have := V.int.inj z
      rw [la, List.length_append, List.length_cons] at this
      omega) ?_
    refine ⟨_, rfl, r, CR, dx, _, _, rfl, h1, cl, A0.a1, rfl, _, rfl, r, CR, dx, _, _, rfl, h1, cl, A0.a4, rfl, wt, _, _, _, rfl, rfl, SqT.of h2, atI_nat e1, a, _, rfl, SqT.of e2, rfl, _, _, rfl, _, _, rfl, _, _, rfl, rfl, ?_⟩
    refine ⟨_, rfl, r, CR, dx, _, _, rfl, h1, cl, A0.a2, rfl, ?_⟩
    have kl : k.length ≤ 6 := by rcases hk with h | h | h <;> subst h <;> decide
    have kl2 : (Str.empty ++ "bad " ++ k).length ≤ sizeLine := by rcases hk with h | h | h <;> subst h <;> decide
    refine ⟨_, rfl, _, rfl, (by decide), _, rfl, .inl ⟨k, rfl, Nat.le_trans kl (by decide), _, rfl, kl2, rfl, _, rfl, ?_⟩⟩
    refine ifn (decide_eq_false fun z => bad_ne' hk (tg w (List.mem_cons_self ..)) (V.str.inj z)) ?_
    exact ⟨_, rfl, rfl, fun d H2 hd ex sm => er d H2 (SmX.of sm) ex⟩

end
end Vf

set_option maxRecDepth 100000
set_option maxHeartbeats 4000000
namespace Vf
open PySem PySem.Spec PyProof.Rows L2 SX
section
variable {P : Program} {w : World} {K : PySem.W.Frag} {mg : Str → Option Value} {base : Heap}
theorem ok_runEnd {f : Addr} {fd : FuncData} (F : C8.Def K mg "run_end" s_runEnd f fd) (b : Binds K fd ["line", "at", "signs"] []) (T : Tx K w mg)  : C8.Cal P w K mg base 1 "run_end" sp_runEnd [] := by
  refine C8.cal0 F b .nil sc_runEnd (fun vs H Q E h => ?_) (fun cdv A outer s H vs Q E hr h => ?_)
  · obtain ⟨l, sg, i, rfl, _⟩ := h; rfl
  have hu := hu_of hr
  refine ⟨_, (pss_cons (ps_while PassesOwn.never (PW.pt (pw_and (pt_cmpR op_lt (pv 1) (pe_callB call_len (by rfl) T.z_len PySem.boot_len (pa_cons (pv 0) pa_nil)) (nomark _)) (pw_and1 (pt_cmpR op_in_sign (pe_ix ix_str (pv 0) (pv 1) (fun _ _ => rfl)) (pv 2) rfl))))
      (pss_one (ps_aug (i := 1) sc_runEnd.nd rfl (Or.inl rfl) pe_int ip_add)))
      (pss_one (ps_ret (pv 1)))), ?_⟩

  obtain ⟨l, sg, i, rfl, hl, q⟩ := h
  refine while_by (fun σ' H' => ∃ j : Nat, σ' = [some (.str (S l)), some (.int (j : Int)), some (.str (S sg))] ∧ H' = H ∧ runEnd sg l j = runEnd sg l i) (fun σ' _ => l.length - (match σ' with | [_, some (.int z), _] => z.toNat | _ => 0)) ⟨i, rfl, rfl, rfl⟩ ?_ ?_
  · rintro σ' H' ⟨j, rfl, rfl, e⟩
    refine ⟨_, rfl, _, rfl, _, l.length, rfl, ⟨by rw [S_len]; exact szB (by omega), by rw [S_len]⟩, _, _, rfl, rfl, _, rfl, ?_⟩
    refine ite2 (fun e1 => ?_) (fun e1 => ?_)
    · have e1' : (j : Int) < (l.length : Int) := of_decide_eq_true e1
      have hj : j < l.length := by omega
      refine ⟨_, rfl, _, rfl, S l, _, l[j], rfl, rfl, by rw [S_len]; exact szB (by omega), atI_nat (List.getElem?_eq_getElem hj), _, rfl, _, _, rfl, rfl, _, rfl, ?_⟩
      refine ite2 (fun e2 => ?_) (fun e2 => ?_)
      · have e2' : l[j] ∈ sg := of_decide_eq_true e2
        refine ⟨_, rfl, _, _, rfl, rfl, ⟨j + 1, rfl, rfl, ?_⟩, ?_⟩
        · rw [runEnd_step (List.getElem?_eq_getElem hj) e2', e]
        · show l.length - ((j : Int) + 1).toNat < l.length - ((j : Int)).toNat
          omega
      · have e2' : ¬ l[j] ∈ sg := of_decide_eq_false (Bool.eq_false_iff.mpr e2)
        refine ⟨_, rfl, ?_⟩
        rw [← e, runEnd_stop (List.getElem?_eq_getElem hj) e2'] at q
        exact q
    · have e1' : ¬ (j : Int) < (l.length : Int) := of_decide_eq_false (Bool.eq_false_iff.mpr e1)
      refine iteF ?_
      refine ⟨_, rfl, ?_⟩
      rw [← e, runEnd_end (by omega)] at q
      exact q
  · rintro σ' H' Q1 Q2 hq ⟨v, hv, x, hx, y, n, e, hn, i1, j1, e1, e2, k, e3, h⟩
    refine ⟨v, hv, x, hx, y, n, e, hn, i1, j1, e1, e2, k, e3, ?_⟩
    cases k with
    | false => exact hq _ _ h
    | true =>
      obtain ⟨a1, a2, a3, a4, z, ii, cc, b1, b2, b3, b4, c1, c2, c3, c4, d1, d2, k2, d3, h⟩ := h
      exact ⟨a1, a2, a3, a4, z, ii, cc, b1, b2, b3, b4, c1, c2, c3, c4, d1, d2, k2, d3, hq _ _ h⟩

end
end Vf

set_option maxRecDepth 100000
set_option maxHeartbeats 4000000
namespace Vf
open PySem PySem.Spec PyProof.Rows L2 SX
section
variable {P : Program} {w : World} {K : PySem.W.Frag} {mg : Str → Option Value} {base : Heap}
theorem ok_WordReader_taken {f : Addr} {fd : FuncData} {q : Str} {CR CT : Addr} (A0 : CaR K CR) (me : Meth K CR "_taken" f) (F : C8.Fun K "_taken" q s_WordReader_taken f fd) (b : Binds K fd ["self", "kind"] []) (T : Tx K w mg)
    (C_WordReader_refuse : MetX P w K mg base 3 CR "refuse" (sp_WordReader_refuse CR CT)) :
    MetX P w K mg base 4 CR "_taken" (sp_WordReader_taken CR CT) := by
  refine metX A0.i.cl me F b sc_WordReader_taken (fun vs H Q E h => ?_) (fun cdv A outer s H vs Q E hr h => ?_)
  · obtain ⟨r, dn, rs, e, k, rfl, _⟩ := h; rfl
  have hu := hu_of hr
  refine ⟨_, (C8.pss_cut (ps_if (PW.pt (pw_or (pt_cmpR op_eq (pe_fld (pv 0) rfl) (pe_callB call_len (by rfl) T.z_len PySem.boot_len (pa_cons (pe_fld (pv 0) rfl) pa_nil)) (nomark _)) (pw_or1 (pt_cmpR op_ne (pe_ix ix_tup (pe_ix ix_tup (pe_fld (pv 0) rfl) (pe_fld (pv 0) rfl) (fun _ _ => rfl)) pe_int (fun _ _ => rfl)) (pv 1) (nomark _)))))
      (pss_one (ps_expr (pe_mx C_WordReader_refuse hr (by decide) (takes_of rfl rfl rfl rfl) (pv 0) (pa_cons (pv 1) pa_nil))))
      pss_nil)
      (pss_cons (ps_fldaug (pv 0) pe_int in_add)
      (pss_one (ps_ret (pe_ix ix_tup (pe_ix ix_tup (pe_fld (pv 0) rfl) (pe_op op_sub (pe_fld (pv 0) rfl) pe_int) (fun _ _ => rfl)) pe_int (fun _ _ => rfl)))))), ?_⟩
  obtain ⟨r, dn, rs, e, k, rfl, hk, rd, tg, h⟩ := h
  have cl := A0.i.cl
  obtain ⟨dx, wt, as, h1, h2, h3, h4⟩ := id rd
  have la := RdAt.ln h3
  refine ⟨fun σ' H' => ∃ v c rs', rs = tk3 k v c :: rs' ∧ σ' = [some (.ref r), some (.str k)] ∧ H' = H ∧ ∀ H', SmX r H H' → RdAt CR H' r (dn ++ [tk3 k v c]) rs' e → Q v H', ?_, ?_⟩
  · refine ⟨_, rfl, r, CR, dx, _, _, rfl, h1, cl, A0.a4, rfl, _, rfl, r, CR, dx, _, _, rfl, h1, cl, A0.a1, rfl, _, as.length, rfl, .inr ⟨_, SqT.of h2, (List.length_map ..).symm⟩, rfl, _, rfl, ?_⟩
    cases rs with
    | nil =>
      refine ify (decide_eq_true (by rw [la, List.append_nil])) (ifT ?_)
      rcases h with ⟨v, c, rs', e0, _⟩ | ⟨_, er⟩
      · cases e0
      · exact ⟨_, rfl, r, dx, _, rfl, h1, rfl, _, rfl, r, dn, _, e, k, rfl, .inr hk, rd, tg, er⟩
    | cons w rs =>
      obtain ⟨a, e1, e2⟩ := RdAt.hd h3
      refine ifn (decide_eq_false fun z => by
        have := V.int.inj z
        rw [la, List.length_append, List.length_cons] at this
        omega) ?_
      refine ⟨_, rfl, r, CR, dx, _, _, rfl, h1, cl, A0.a1, rfl, _, rfl, r, CR, dx, _, _, rfl, h1, cl, A0.a4, rfl, wt, _, _, _, rfl, rfl, SqT.of h2, atI_nat e1, a, _, 0, _, rfl, rfl, SqT.of e2, rfl, _, rfl, rfl, _, rfl, ?_⟩
      rcases h with ⟨v, c, rs', e0, q⟩ | ⟨hne, er⟩
      · obtain ⟨rfl, rfl⟩ := List.cons.inj e0
        refine ifn (by rw [decide_eq_true rfl]; rfl) ?_
        exact ⟨v, c, rs, rfl, rfl, rfl, q⟩
      · refine ify (by rw [decide_eq_false fun z => hne w rs rfl (V.str.inj z)]; rfl) ?_
        exact ⟨_, rfl, r, dx, _, rfl, h1, rfl, _, rfl, r, dn, _, e, k, rfl, .inr hk, rd, tg, er⟩
  rintro σ' H' ⟨v, c, rs', rfl, rfl, rfl, q⟩
  obtain ⟨a, e1, e2⟩ := RdAt.hd h3
  have st := RdAt.step h1 h2 h3 h4
  have nw : wt ≠ r := fun z => by rw [z, h1] at h2; cases h2
  have na : a ≠ r := fun z => by rw [z, h1] at e2; cases e2
  refine ⟨_, rfl, r, CR, dx, _, _, rfl, h1, cl, A0.a4, rfl, _, _, rfl, rfl, dx, _, h1, (by decide : (4 : Nat) < 1000), ?_⟩
  have u1 : (upd H' r (.ins CR dx (rF wt e (dn.length + 1)))) r = some (.ins CR dx (rF wt e (dn.length + 1))) := upd_same
  have u2 : (upd H' r (.ins CR dx (rF wt e (dn.length + 1)))) wt = some (.tup (as.map V.ref)) := by rw [upd_ne nw]; exact h2
  have u3 : (upd H' r (.ins CR dx (rF wt e (dn.length + 1)))) a = some (.tup (w3V (tk3 k v c))) := by rw [upd_ne na]; exact e2
  refine ⟨_, rfl, r, CR, dx, _, _, rfl, u1, cl, A0.a1, rfl, _, rfl, r, CR, dx, _, _, rfl, u1, cl, A0.a4, rfl, _, _, rfl, rfl, wt, _, _, _, rfl, rfl, SqT.of u2, ?_, a, _, 1, _, rfl, rfl, SqT.of u3, rfl, q _ st.2 st.1⟩
  rw [show ((dn.length + 1 : Nat) : Int) - 1 = (dn.length : Int) by omega]
  exact atI_nat e1

end
end Vf

set_option maxRecDepth 100000
set_option maxHeartbeats 4000000
namespace Vf
open PySem PySem.Spec PyProof.Rows L2 SX
section
variable {P : Program} {w : World} {K : PySem.W.Frag} {mg : Str → Option Value} {base : Heap}
theorem ok_testMadeP {f : Addr} {fd : FuncData} (F : C8.Def K mg "_law_test_made" s_testMade f fd) (b : Binds K fd ["_law_check"] []) (T : Tx K w mg) {CBadWord CBadNumber CL : Addr} (C_plainTest : CalX P w K mg base 4 "plain_test" (sp_plainTest K CL CBadWord CBadNumber)) (C_otherTest : CalX P w K mg base 3 "other_test" (sp_otherTest K CL CBadWord CBadNumber)) :
    C8.Cal P w K mg base 5 "_law_test_made" (sp_testMadeP CL) [] := by
  refine C8.cal0 F b .nil sc_testMade (fun vs H Q E h => ?_) (fun cdv A outer s H vs Q E hr h => ?_)
  · obtain ⟨a, p, n, rfl, _⟩ := h; rfl
  have hu := hu_of hr
  refine ⟨_, (pss_cons (ps_asg (pv 0) (pg_tup (by rfl) (pgs_cons (pg_name (i := 1) sc_testMade.nd rfl (Or.inl rfl)) (pgs_cons (pg_name (i := 2) sc_testMade.nd rfl (Or.inl rfl)) (pgs_cons (pg_name (i := 3) sc_testMade.nd rfl (Or.inl rfl)) (pgs_cons (pg_name (i := 4) sc_testMade.nd rfl (Or.inl rfl)) (pgs_cons (pg_name (i := 5) sc_testMade.nd rfl (Or.inl rfl)) pgs_nil)))))))
      (C8.pss_cut (ps_if (pt_cmpR op_eq (pv 1) pe_str (nomark _))
      (pss_one ps_never)
      (pss_one (ps_set (i := 6) sc_testMade.nd rfl (Or.inl rfl) (pe_cx0 C_plainTest hr (by decide) rfl (pa_cons (pv 1) (pa_cons (pv 2) pa_nil))))))
      (pss_one (ps_ret (pe_ifExp (pt_val (pv 5)) (pe_cx0 C_otherTest hr (by decide) rfl (pa_cons (pv 6) pa_nil)) (pv 6)))))), ?_⟩
  obtain ⟨a, p, n, rfl, ck, op, q⟩ := h
  refine ⟨_, rfl, a, _, rfl, SqT.of ck, rfl, _, _, rfl, _, _, rfl, _, _, rfl, _, _, rfl, _, _, rfl, rfl, ?_⟩
  refine ⟨fun σ' H' => ∃ o, σ' = [some (.ref a), some (.str p.1), some p.2, some .non, some .non, some (.bl n), some (.ref o)] ∧ PlAt CL H' o p false ∧ Same H H', ?_, ?_⟩
  · refine ⟨_, rfl, rfl, _, rfl, ifn (decide_eq_false fun z => op.nf (V.str.inj z)) ?_⟩
    exact ⟨_, rfl, _, rfl, .str p.1, p.2, none, rfl, .ok op, fun _ H' o k hk sm hpl => ⟨o, rfl, by cases hk; exact hpl, sm⟩, fun e h => nomatch h⟩
  rintro σ' H1 ⟨o, rfl, ⟨dx, ho⟩, sm⟩
  refine ⟨_, rfl, n, rfl, ?_⟩
  cases n with
  | true => exact ifT ⟨_, rfl, .ref o, rfl, .inr ⟨o, dx, p, _, _, rfl, ho, fun H' c dz s2 hc => q H' c (Same.trans sm s2) ⟨dz, hc⟩⟩⟩
  | false => exact ifF ⟨_, rfl, q H1 o sm ⟨dx, ho⟩⟩
theorem tst_sg (t : Tst) : t.sg t.neg = t := by cases t <;> rfl
theorem ok_testMade {f : Addr} {fd : FuncData} (F : C8.Def K mg "_law_test_made" s_testMade f fd) (b : Binds K fd ["_law_check"] []) (T : Tx K w mg) {CBadWord CBadNumber CL : Addr} (C_rangeTest : CalX P w K mg base 3 "range_test" (sp_rangeTest K CL CBadWord CBadNumber)) (C_testMade : C8.Cal P w K mg base 5 "_law_test_made" (sp_testMadeP CL) []) (C_plainTest : CalX P w K mg base 4 "plain_test" (sp_plainTest K CL CBadWord CBadNumber)) (C_otherTest : CalX P w K mg base 3 "other_test" (sp_otherTest K CL CBadWord CBadNumber)) :
    C8.Cal P w K mg base 6 "_law_test_made" (sp_testMade CL) [] := by
  refine C8.cal0 F b .nil sc_testMade (fun vs H Q E h => ?_) (fun cdv A outer s H vs Q E hr h => ?_)
  · obtain ⟨a, t, rfl, _⟩ := h; rfl
  have hu := hu_of hr
  refine ⟨_, (pss_cons (ps_asg (pv 0) (pg_tup (by rfl) (pgs_cons (pg_name (i := 1) sc_testMade.nd rfl (Or.inl rfl)) (pgs_cons (pg_name (i := 2) sc_testMade.nd rfl (Or.inl rfl)) (pgs_cons (pg_name (i := 3) sc_testMade.nd rfl (Or.inl rfl)) (pgs_cons (pg_name (i := 4) sc_testMade.nd rfl (Or.inl rfl)) (pgs_cons (pg_name (i := 5) sc_testMade.nd rfl (Or.inl rfl)) pgs_nil)))))))
      (C8.pss_cut (ps_if (pt_cmpR op_eq (pv 1) pe_str (nomark _))
      (pss_one (ps_set (i := 6) sc_testMade.nd rfl (Or.inl rfl) (pe_cx0 C_rangeTest hr (by decide) rfl (pa_cons (C8.pe_c C_testMade hr (by decide) rfl (pa_cons (pv 3) pa_nil)) (pa_cons (C8.pe_c C_testMade hr (by decide) rfl (pa_cons (pv 4) pa_nil)) pa_nil)))))
      (pss_one (ps_set (i := 6) sc_testMade.nd rfl (Or.inl rfl) (pe_cx0 C_plainTest hr (by decide) rfl (pa_cons (pv 1) (pa_cons (pv 2) pa_nil))))))
      (pss_one (ps_ret (pe_ifExp (pt_val (pv 5)) (pe_cx0 C_otherTest hr (by decide) rfl (pa_cons (pv 6) pa_nil)) (pv 6)))))), ?_⟩
  obtain ⟨a, t, rfl, ck, ot, q⟩ := h
  obtain ⟨z, x, y, hz, _⟩ := ck_l ck
  refine ⟨_, rfl, a, _, rfl, SqT.of hz, rfl, _, _, rfl, _, _, rfl, _, _, rfl, _, _, rfl, _, _, rfl, rfl, ?_⟩
  refine ⟨fun σ' H' => ∃ (o dx : Addr) (r : Pt) (u v : V), σ' = [some (.ref a), some (.str z.1), some z.2, some x, some y, some (.bl t.neg), some (.ref o)] ∧ H' o = some (.ins CL dx (tF r u v false)) ∧ Same H H' ∧ ∀ (b : Bool) (H'' : Hp) (c dz : Addr), Same H' H'' → H'' c = some (.ins CL dz (tF r u v b)) → TsAt CL H'' c (t.sg b), ?_, ?_⟩
  · match t, ck, ot, hz with
    | .pl p n, ck, op, hz =>
      have e : cT p .non .non n = cT z x y n := by
        have := ck.symm.trans hz
        exact HO.tup.inj (Option.some.inj this)
      have e1 : V.str p.1 = V.str z.1 := (List.cons.inj e).1
      have e2 : p.2 = z.2 := (List.cons.inj (List.cons.inj e).2).1
      have ez : z = p := Prod.ext (V.str.inj e1).symm e2.symm
      subst ez
      refine ⟨_, rfl, rfl, _, rfl, ifn (decide_eq_false fun w => op.nf (V.str.inj w)) ?_⟩
      exact ⟨_, rfl, _, rfl, .str z.1, z.2, none, rfl, .ok op, fun _ H' o k hk sm ⟨dx, ho⟩ => ⟨o, dx, z, .non, .non, rfl, by cases hk; exact ho, sm, fun b H'' c dz _ hc => ⟨dz, hc⟩⟩, fun e h => nomatch h⟩
    | .rg p p' n, ⟨b, c, h0, h1, h2⟩, ot, hz =>
      have e : cT ("from", .non) (.ref b) (.ref c) n = cT z x y n := HO.tup.inj (Option.some.inj (h0.symm.trans hz))
      have e1 : V.str "from" = V.str z.1 := (List.cons.inj e).1
      have e3 : V.ref b = x := (List.cons.inj (List.cons.inj (List.cons.inj e).2).2).1
      have e4 : V.ref c = y := (List.cons.inj (List.cons.inj (List.cons.inj (List.cons.inj e).2).2).2).1
      subst e3 e4
      have ez : z.1 = "from" := (V.str.inj e1).symm
      refine ⟨_, rfl, rfl, _, rfl, ify (decide_eq_true (by rw [ez])) ?_⟩
      refine ⟨_, rfl, b, p, false, rfl, h1, ot.1, fun H1 o1 s1 t1 => ?_⟩
      refine ⟨_, rfl, c, p', false, rfl, s1 _ _ h2, ot.2, fun H2 o2 s2 t2 => ?_⟩
      have t1' := PlAt.sm t1 s2
      obtain ⟨d1, g1⟩ := id t1'
      obtain ⟨d2, g2⟩ := id t2
      refine ⟨.ref o1, .ref o2, rfl, .inr ⟨o1, d1, p, _, _, rfl, g1, ot.1.nf, .inr ⟨o2, d2, p', _, _, rfl, g2, ot.2.nf, fun H3 o dz s3 ho => ?_⟩⟩⟩
      exact ⟨o, dz, ("from", .non), .ref o1, .ref o2, rfl, ho, Same.trans s1 (Same.trans s2 s3), fun b' H'' c' dz' sm hc => ⟨dz', o1, o2, hc, PlAt.sm (PlAt.sm t1' s3) sm, PlAt.sm (PlAt.sm t2 s3) sm⟩⟩
  rintro σ' H1 ⟨o, dx, r, u, v, rfl, ho, sm, back⟩
  refine ⟨_, rfl, t.neg, rfl, ?_⟩
  cases hn : t.neg with
  | true =>
    refine ifT ⟨_, rfl, .ref o, rfl, .inr ⟨o, dx, r, u, v, rfl, ho, fun H' c dz s2 hc => q H' c (Same.trans sm s2) ?_⟩⟩
    have := back true H' c dz s2 hc
    rw [← hn, tst_sg] at this
    exact this
  | false =>
    refine ifF ⟨_, rfl, q H1 o sm ?_⟩
    have := back false H1 o dx (fun _ _ z => z) ho
    rw [← hn, tst_sg] at this
    exact this

end
end Vf

set_option maxRecDepth 100000
set_option maxHeartbeats 4000000
namespace Vf
open PySem PySem.Spec PyProof.Rows L2 SX
section
variable {P : Program} {w : World} {K : PySem.W.Frag} {mg : Str → Option Value} {base : Heap}
theorem ok_wordAt {f : Addr} {fd : FuncData} (F : C8.Def K mg "word_at" s_wordAt f fd) (b : Binds K fd ["line", "at"] []) (T : Tx K w mg) (C_runEnd : C8.Cal P w K mg base 1 "run_end" sp_runEnd []) (C_numberAt : C8.Cal P w K mg base 2 "number_at" sp_numberAt []) (C_quotedAt : C8.Cal P w K mg base 1 "quoted_at" sp_quotedAt []) : C8.Cal P w K mg base 3 "word_at" sp_wordAt [] := by
  refine C8.cal0 F b .nil sc_wordAt (fun vs H Q E h => ?_) (fun cdv A outer s H vs Q E hr h => ?_)
  · obtain ⟨l, i, rfl, _⟩ := h; rfl
  have hu := hu_of hr
  refine ⟨_, (pss_cons (ps_set (i := 2) sc_wordAt.nd rfl (Or.inl rfl) (pe_ix ix_str (pv 0) (pv 1) (fun _ _ => rfl)))
      (pss_cons (ps_if (pt_cmpR op_in_sign (pv 2) (C8.pe_gc rfl T.g_LETTERS) rfl)
      (pss_cons (ps_set (i := 3) sc_wordAt.nd rfl (Or.inl rfl) (C8.pe_c C_runEnd hr (by decide) rfl (pa_cons (pv 0) (pa_cons (pv 1) (pa_cons (C8.pe_gc rfl T.g_LETTERS) pa_nil)))))
      (pss_one (ps_ret (pe_tup (pa_cons pe_str (pa_cons (pe_slice C8.sl_txt (pv 0) (po_some (pv 1)) (po_some (pv 3))) (pa_cons (pv 3) pa_nil)))))))
      pss_nil)
      (pss_cons (ps_if (pt_cmpR op_in_sign (pv 2) (C8.pe_gc rfl T.g_FIGURES) rfl)
      (pss_one (ps_ret (C8.pe_c C_numberAt hr (by decide) rfl (pa_cons (pv 0) (pa_cons (pv 1) pa_nil)))))
      pss_nil)
      (pss_cons (ps_if (pt_cmpR op_eq (pv 2) pe_str (nomark _))
      (pss_one (ps_ret (C8.pe_c C_quotedAt hr (by decide) rfl (pa_cons (pv 0) (pa_cons (pv 1) pa_nil)))))
      pss_nil)
      (pss_cons (ps_if (pt_cmpR op_in_sign (pv 2) pe_str rfl)
      (pss_one (ps_ret (pe_tup (pa_cons pe_str (pa_cons (pv 2) (pa_cons (pe_op op_add (pv 1) pe_int) pa_nil))))))
      pss_nil)
      (pss_one (ps_ret (pe_tup (pa_cons pe_str (pa_cons (pe_op op_add (pv 1) pe_int) (pa_cons (pe_op op_add (pv 1) pe_int) pa_nil))))))))))), ?_⟩

  obtain ⟨l, i, rfl, hl, hi, q⟩ := h
  have gc : l[i]? = some l[i] := List.getElem?_eq_getElem hi
  unfold wAt at q
  rw [gc] at q
  dsimp only at q
  generalize l[i] = ch at gc q
  have fin3 : ∀ (w : W3), w3Post w H Q → ∀ p, H p = none → Q (.ref p) (upd H p (.tup (w3V w))) := fun w hw p np => hw _ p (same_new (Same.refl H) np _) upd_same
  refine ⟨_, rfl, _, rfl, S l, _, ch, rfl, rfl, by rw [S_len]; exact szB (by omega), atI_nat gc, ?_⟩
  refine ⟨_, rfl, ch, S lowL, rfl, rfl, _, rfl, ?_⟩
  by_cases h1 : ch ∈ lowL
  · rw [if_pos h1] at q
    rw [show decide (ch ∈ (S lowL).cps.toList) = true from decide_eq_true h1]
    refine iteT ?_
    refine ⟨_, rfl, _, rfl, l, lowL, i, rfl, hl, ?_⟩
    refine ⟨_, rfl, _, rfl, _, rfl, _, rfl, _, rfl, S l, rfl, by rw [S_len]; exact szB (by omega), ?_⟩
    rw [slice2 (runEnd_ge lowL l i)]
    exact ⟨_, rfl, sz_3, fun p np => fin3 _ q p np⟩
  · rw [if_neg h1] at q
    rw [show decide (ch ∈ (S lowL).cps.toList) = false from decide_eq_false h1]
    refine iteF ?_
    refine ⟨_, rfl, ch, S figL, rfl, rfl, _, rfl, ?_⟩
    by_cases h2 : ch ∈ figL
    · rw [if_pos h2] at q
      rw [show decide (ch ∈ (S figL).cps.toList) = true from decide_eq_true h2]
      refine iteT ?_
      exact ⟨_, rfl, _, rfl, l, i, ch, rfl, hl, gc, h2, q⟩
    · rw [if_neg h2] at q
      rw [show decide (ch ∈ (S figL).cps.toList) = false from decide_eq_false h2]
      refine iteF ?_
      refine ⟨_, rfl, rfl, _, rfl, ?_⟩
      refine ite2 (fun e3 => ?_) (fun e3 => ?_)
      · have h3 : ch = 34 := of_decide_eq_true ((eq1 ch 34).symm.trans e3)
        rw [if_pos h3] at q
        exact ⟨_, rfl, _, rfl, l, i, rfl, hl, hi, q⟩
      · have h3 : ¬ ch = 34 := fun z => e3 ((eq1 ch 34).trans (decide_eq_true z))
        rw [if_neg h3] at q
        refine ⟨_, rfl, ch, S [40, 41], rfl, rfl, _, rfl, ?_⟩
        by_cases h4 : ch = 40 ∨ ch = 41
        · rw [if_pos h4] at q
          rw [show decide (ch ∈ (S [40, 41]).cps.toList) = true from decide_eq_true (by rcases h4 with h | h <;> subst h <;> decide)]
          refine iteT ?_
          exact ⟨_, rfl, _, rfl, _, _, rfl, rfl, sz_3, fun p np => fin3 _ q p np⟩
        · rw [if_neg h4] at q
          rw [show decide (ch ∈ (S [40, 41]).cps.toList) = false from decide_eq_false (fun z => h4 (by
            rcases List.mem_cons.mp (show ch ∈ [40, 41] from z) with h | h
            · exact .inl h
            · exact .inr (List.mem_singleton.mp h)))]
          refine iteF ?_
          exact ⟨_, rfl, _, _, rfl, rfl, _, rfl, _, _, rfl, rfl, sz_3, fun p np => fin3 _ q p np⟩

end
end Vf

set_option maxRecDepth 100000
set_option maxHeartbeats 4000000
namespace Vf
open PySem PySem.Spec PyProof.Rows L2 SX
theorem all_ok {P : Program} {w : World} {K : PySem.W.Frag} {mg : Str → Option Value} {CT CB CN CW CL CR fI fE fT fR : Addr} (T : Tx K w mg)
    (d_isText : Dn K mg "is_text" s_isText ["value"])
    (d_isPatch : Dn K mg "is_patch" s_isPatch ["value"])
    (d_isWhole : Dn K mg "is_whole" s_isWhole ["value"])
    (d_isLineWord : Dn K mg "is_line_word" s_isLineWord ["value"])
    (d_isWithin : Dn K mg "is_within" s_isWithin ["value", "bounds"])
    (d_isPlain : Dn K mg "is_plain" s_isPlain ["value"])
    (d_plainTest : Dn K mg "plain_test" s_plainTest ["word", "argument"])
    (d_rangeTest : Dn K mg "range_test" s_rangeTest ["first", "second"])
    (d_otherTest : Dn K mg "other_test" s_otherTest ["test"])
    (d_pen : Dn K mg "_law_pen" s_pen ["_law_script"])
    (d_draw : Dn K mg "_law_draw" s_draw ["_law_pen_here", "_law_many"])
    (d_pick : Dn K mg "_law_pick" s_pick ["_law_pen_here", "_law_some"])
    (d_allSigns : Dn K mg "_law_all_signs" s_allSigns [])
    (d_anySign : Dn K mg "_law_any_sign" s_anySign ["_law_pen_here", "_law_line"])
    (d_anyWord : Dn K mg "_law_any_word" s_anyWord ["_law_pen_here", "_law_least", "_law_most", "_law_line"])
    (d_quoted : Dn K mg "_law_quoted" s_quoted ["_law_word"])
    (d_runEnd : Dn K mg "run_end" s_runEnd ["line", "at", "signs"])
    (d_quotedAt : Dn K mg "quoted_at" s_quotedAt ["line", "at"])
    (d_quotedText : Dn K mg "quoted_text" s_quotedText ["word"])
    (d_numberAt : Dn K mg "number_at" s_numberAt ["line", "at"])
    (d_wordAt : Dn K mg "word_at" s_wordAt ["line", "at"])
    (d_lineWords : Dn K mg "line_words" s_lineWords ["line"])
    (d_plainForm : Dn K mg "plain_form" s_plainForm ["words"])
    (d_linetestForm : Dn K mg "linetest_form" s_linetestForm ["words"])
    (d_madeLinetest : Dn K mg "made_linetest" s_madeLinetest ["form"])
    (d_readLinetest : Dn K mg "read_linetest" s_readLinetest ["line"])
    (d_linetestText : Dn K mg "linetest_text" s_linetestText ["test"])
    (d_testMade : Dn K mg "_law_test_made" s_testMade ["_law_check"])
    (d_anyPlain : Dn K mg "_law_any_plain" s_anyPlain ["_law_pen_here"])
    (d_anyTest : Dn K mg "_law_any_test" s_anyTest ["_law_pen_here"])
    (d_testWords : Dn K mg "_law_test_words" s_testWords ["_law_check"])
    (d_lineOfWords : Dn K mg "_law_line_of_words" s_lineOfWords ["_law_pen_here", "_law_words"])
    (d_isTest : Dn K mg "_law_is_test" s_isTest ["_law_made", "_law_check"])
    (d_beyond : Dn K mg "_law_beyond" s_beyond ["_law_pen_here", "_law_check"])
    (d_isWrongRight : Dn K mg "_law_is_wrong_right" s_isWrongRight ["_law_pen_here", "_law_words"])
    (d_lawRead : Dn K mg "_law_read" s_lawRead ["_law_line"])
    (L : Lt K mg CL fI fE fT) (nI : ∃ (q : Str) (fd : FuncData), C8.Fun K "__init__" q s_LineTest_init fI fd ∧ Binds K fd ["self", "word", "argument", "parts", "negated"] []) (nE : ∃ (q : Str) (fd : FuncData), C8.Fun K "__eq__" q s_LineTest_eq fE fd ∧ Binds K fd ["self", "other"] [])
    (WR : Wr K mg CR fR) (nR : ∃ (q : Str) (fd : FuncData), C8.Fun K "__init__" q s_WordReader_init fR fd ∧ Binds K fd ["self", "line", "number"] [])
    (m_coming : Mn K CR "coming" s_WordReader_coming ["self"])
    (m_refuse : Mn K CR "refuse" s_WordReader_refuse ["self", "kind"])
    (m_skipped : Mn K CR "skipped" s_WordReader_skipped ["self", "word"])
    (m_chosen : Mn K CR "chosen" s_WordReader_chosen ["self", "words"])
    (m__taken : Mn K CR "_taken" s_WordReader_taken ["self", "kind"])
    (m_quoted : Mn K CR "quoted" s_WordReader_quoted ["self"])
    (m_whole : Mn K CR "whole" s_WordReader_whole ["self"])
    (m_finish : Mn K CR "finish" s_WordReader_finish ["self"])
    (kT : Kc K mg "BadText" CT CW ["line", "column"] i_BadText) (kB : Kc K mg "BadWord" CB CW ["what"] i_BadWord) (kN : Kc K mg "BadNumber" CN CW ["what", "number"] i_BadNumber) (gW : mg "WorkshopError" = some (.ref CW)) (x : XF K CB CN CW) (tt : PySem.W.exmOne K (.ref CT) (.ref CT) = some true)
    (base : Heap) {f : Addr} {fd : FuncData} (F : C8.Def K mg "law" s_law f fd) : FnOk P w K mg base C8.CX0 10 f fd ["_law_script"] (sp_law K) := by
  have A0 := L.a
  have AR := WR.a
  obtain ⟨qI, gI, FI, bI⟩ := nI
  obtain ⟨qE, gE, FE, bE⟩ := nE
  obtain ⟨qR, gR, FR, bR⟩ := nR
  have M_LineTest := ok_init (P := P) (w := w) (base := base) A0 L.mI L.g FI bI
  have CO : Co P w K mg base CL := ⟨L.g, M_LineTest, A0.i, A0.a1, A0.a2, A0.a3, A0.a4, A0.a5⟩
  have ES : Es P w K mg base CT CB CN CW := { r_BadText := rk_mk kT ini_BadText, r_BadWord := rk_mk kB ini_BadWord, r_BadNumber := rk_mk kN ini_BadNumber, x := x, g_WorkshopError := gW }
  have EQ1 : Eqc P w K mg base 1 CL (EqP CL) := ⟨⟨fE, gE, ["self", "other"], L.eq, ok_eqP A0 L.g T FE, bE⟩⟩
  have EQ : Eqc P w K mg base 2 CL (EqR CL) := ⟨⟨fE, gE, ["self", "other"], L.eq, ok_eq A0 L.g T FE EQ1, bE⟩⟩
  obtain ⟨f_isText, fd_isText, F_isText, b_isText⟩ := d_isText
  have C_isText := ok_isText (P := P) (w := w) (base := base) F_isText b_isText T
  obtain ⟨f_isPatch, fd_isPatch, F_isPatch, b_isPatch⟩ := d_isPatch
  have C_isPatch := ok_isPatch (P := P) (w := w) (base := base) F_isPatch b_isPatch T C_isText
  obtain ⟨f_isWhole, fd_isWhole, F_isWhole, b_isWhole⟩ := d_isWhole
  have C_isWhole := ok_isWhole (P := P) (w := w) (base := base) F_isWhole b_isWhole T
  obtain ⟨f_isLineWord, fd_isLineWord, F_isLineWord, b_isLineWord⟩ := d_isLineWord
  have C_isLineWord := ok_isLineWord (P := P) (w := w) (base := base) F_isLineWord b_isLineWord T C_isPatch
  obtain ⟨f_isWithin, fd_isWithin, F_isWithin, b_isWithin⟩ := d_isWithin
  have C_isWithin := ok_isWithin (P := P) (w := w) (base := base) F_isWithin b_isWithin T C_isWhole
  obtain ⟨f_isPlain, fd_isPlain, F_isPlain, b_isPlain⟩ := d_isPlain
  have C_isPlain := ok_isPlain (P := P) (w := w) (base := base) F_isPlain b_isPlain T CO A0
  obtain ⟨f_plainTest, fd_plainTest, F_plainTest, b_plainTest⟩ := d_plainTest
  have C_plainTest := ok_plainTest (P := P) (w := w) (base := base) F_plainTest b_plainTest T ES CO C_isLineWord C_isWithin
  obtain ⟨f_rangeTest, fd_rangeTest, F_rangeTest, b_rangeTest⟩ := d_rangeTest
  have C_rangeTest := ok_rangeTest (P := P) (w := w) (base := base) F_rangeTest b_rangeTest T ES CO C_isPlain
  obtain ⟨f_otherTest, fd_otherTest, F_otherTest, b_otherTest⟩ := d_otherTest
  have C_otherTest := ok_otherTest (P := P) (w := w) (base := base) F_otherTest b_otherTest T ES CO A0
  obtain ⟨f_pen, fd_pen, F_pen, b_pen⟩ := d_pen
  have C_pen := ok_pen (P := P) (w := w) (base := base) F_pen b_pen T
  obtain ⟨f_draw, fd_draw, F_draw, b_draw⟩ := d_draw
  have C_draw := ok_draw (P := P) (w := w) (base := base) F_draw b_draw T
  obtain ⟨f_pick, fd_pick, F_pick, b_pick⟩ := d_pick
  have C_pick := ok_pick (P := P) (w := w) (base := base) F_pick b_pick T C_draw
  obtain ⟨f_allSigns, fd_allSigns, F_allSigns, b_allSigns⟩ := d_allSigns
  have C_allSigns := ok_allSigns (P := P) (w := w) (base := base) F_allSigns b_allSigns T
  obtain ⟨f_anySign, fd_anySign, F_anySign, b_anySign⟩ := d_anySign
  have C_anySign := ok_anySign (P := P) (w := w) (base := base) F_anySign b_anySign T C_draw C_pick C_allSigns
  obtain ⟨f_anyWord, fd_anyWord, F_anyWord, b_anyWord⟩ := d_anyWord
  have C_anyWord := ok_anyWord (P := P) (w := w) (base := base) F_anyWord b_anyWord T C_draw C_anySign
  obtain ⟨f_quoted, fd_quoted, F_quoted, b_quoted⟩ := d_quoted
  have C_quoted := ok_quoted (P := P) (w := w) (base := base) F_quoted b_quoted
  obtain ⟨f_runEnd, fd_runEnd, F_runEnd, b_runEnd⟩ := d_runEnd
  have C_runEnd := ok_runEnd (P := P) (w := w) (base := base) F_runEnd b_runEnd T
  obtain ⟨f_quotedAt, fd_quotedAt, F_quotedAt, b_quotedAt⟩ := d_quotedAt
  have C_quotedAt := ok_quotedAt (P := P) (w := w) (base := base) F_quotedAt b_quotedAt T
  obtain ⟨f_quotedText, fd_quotedText, F_quotedText, b_quotedText⟩ := d_quotedText
  have C_quotedText := ok_quotedText (P := P) (w := w) (base := base) F_quotedText b_quotedText T
  obtain ⟨f_numberAt, fd_numberAt, F_numberAt, b_numberAt⟩ := d_numberAt
  have C_numberAt := ok_numberAt (P := P) (w := w) (base := base) F_numberAt b_numberAt T C_runEnd
  obtain ⟨f_wordAt, fd_wordAt, F_wordAt, b_wordAt⟩ := d_wordAt
  have C_wordAt := ok_wordAt (P := P) (w := w) (base := base) F_wordAt b_wordAt T C_runEnd C_numberAt C_quotedAt
  obtain ⟨f_lineWords, fd_lineWords, F_lineWords, b_lineWords⟩ := d_lineWords
  have C_lineWords := ok_lineWords (P := P) (w := w) (base := base) F_lineWords b_lineWords T C_wordAt
  obtain ⟨f_mcoming, q_mcoming, fd_mcoming, me_mcoming, F_mcoming, b_mcoming⟩ := m_coming
  have C_WordReader_coming := ok_WordReader_coming (P := P) (w := w) (base := base) AR me_mcoming F_mcoming b_mcoming T
  obtain ⟨f_mrefuse, q_mrefuse, fd_mrefuse, me_mrefuse, F_mrefuse, b_mrefuse⟩ := m_refuse
  have C_WordReader_refuse := ok_WordReader_refuse (P := P) (w := w) (base := base) AR me_mrefuse F_mrefuse b_mrefuse T ES
  obtain ⟨f_mskipped, q_mskipped, fd_mskipped, me_mskipped, F_mskipped, b_mskipped⟩ := m_skipped
  have C_WordReader_skipped := ok_WordReader_skipped (P := P) (w := w) (base := base) AR me_mskipped F_mskipped b_mskipped T C_WordReader_coming
  obtain ⟨f_mchosen, q_mchosen, fd_mchosen, me_mchosen, F_mchosen, b_mchosen⟩ := m_chosen
  have C_WordReader_chosen := ok_WordReader_chosen (P := P) (w := w) (base := base) AR me_mchosen F_mchosen b_mchosen T C_WordReader_coming C_WordReader_refuse
  obtain ⟨f_m_taken, q_m_taken, fd_m_taken, me_m_taken, F_m_taken, b_m_taken⟩ := m__taken
  have C_WordReader_taken := ok_WordReader_taken (P := P) (w := w) (base := base) AR me_m_taken F_m_taken b_m_taken T C_WordReader_refuse
  obtain ⟨f_mquoted, q_mquoted, fd_mquoted, me_mquoted, F_mquoted, b_mquoted⟩ := m_quoted
  have C_WordReader_quoted := ok_WordReader_quoted (P := P) (w := w) (base := base) AR me_mquoted F_mquoted b_mquoted T C_WordReader_taken
  obtain ⟨f_mwhole, q_mwhole, fd_mwhole, me_mwhole, F_mwhole, b_mwhole⟩ := m_whole
  have C_WordReader_whole := ok_WordReader_whole (P := P) (w := w) (base := base) AR me_mwhole F_mwhole b_mwhole T C_WordReader_taken
  obtain ⟨f_mfinish, q_mfinish, fd_mfinish, me_mfinish, F_mfinish, b_mfinish⟩ := m_finish
  have C_WordReader_finish := ok_WordReader_finish (P := P) (w := w) (base := base) AR me_mfinish F_mfinish b_mfinish T C_WordReader_refuse
  have M_WordReader := ok_WordReader_init (P := P) (w := w) (base := base) AR WR.mI WR.g FR bR T C_lineWords
  have COR : CoR P w K mg base CR := ⟨WR.g, M_WordReader⟩
  obtain ⟨f_plainForm, fd_plainForm, F_plainForm, b_plainForm⟩ := d_plainForm
  have C_plainForm := ok_plainForm (P := P) (w := w) (base := base) AR F_plainForm b_plainForm T C_WordReader_chosen C_WordReader_quoted C_WordReader_whole
  obtain ⟨f_linetestForm, fd_linetestForm, F_linetestForm, b_linetestForm⟩ := d_linetestForm
  have C_linetestForm := ok_linetestForm (P := P) (w := w) (base := base) AR F_linetestForm b_linetestForm T C_WordReader_skipped C_plainForm C_WordReader_chosen
  obtain ⟨f_madeLinetest, fd_madeLinetest, F_madeLinetest, b_madeLinetest⟩ := d_madeLinetest
  have C_madeLinetest := ok_madeLinetest (P := P) (w := w) (base := base) F_madeLinetest b_madeLinetest T C_plainTest C_rangeTest C_otherTest
  obtain ⟨f_readLinetest, fd_readLinetest, F_readLinetest, b_readLinetest⟩ := d_readLinetest
  have C_readLinetest := ok_readLinetest (P := P) (w := w) (base := base) COR AR F_readLinetest b_readLinetest T C_linetestForm C_WordReader_finish C_madeLinetest
  obtain ⟨f_linetestText, fd_linetestText, F_linetestText, b_linetestText⟩ := d_linetestText
  have C_linetestTextP := ok_linetestTextP (P := P) (w := w) (base := base) F_linetestText b_linetestText T A0 C_quotedText
  have C_linetestText := ok_linetestText (P := P) (w := w) (base := base) F_linetestText b_linetestText T A0 C_linetestTextP C_quotedText
  obtain ⟨f_testMade, fd_testMade, F_testMade, b_testMade⟩ := d_testMade
  have C_testMadeP := ok_testMadeP (P := P) (w := w) (base := base) F_testMade b_testMade T C_plainTest C_otherTest
  have C_testMade := ok_testMade (P := P) (w := w) (base := base) F_testMade b_testMade T C_rangeTest C_testMadeP C_plainTest C_otherTest
  obtain ⟨f_anyPlain, fd_anyPlain, F_anyPlain, b_anyPlain⟩ := d_anyPlain
  have C_anyPlain := ok_anyPlain (P := P) (w := w) (base := base) F_anyPlain b_anyPlain T C_pick C_anyWord C_draw
  obtain ⟨f_anyTest, fd_anyTest, F_anyTest, b_anyTest⟩ := d_anyTest
  have C_anyTest := ok_anyTest (P := P) (w := w) (base := base) F_anyTest b_anyTest T C_anyPlain C_draw
  obtain ⟨f_testWords, fd_testWords, F_testWords, b_testWords⟩ := d_testWords
  have C_testWordsP := ok_testWordsP (P := P) (w := w) (base := base) F_testWords b_testWords T C_quoted
  have C_testWords := ok_testWords (P := P) (w := w) (base := base) F_testWords b_testWords T C_testWordsP C_quoted
  obtain ⟨f_lineOfWords, fd_lineOfWords, F_lineOfWords, b_lineOfWords⟩ := d_lineOfWords
  have C_lineOfWords := ok_lineOfWords (P := P) (w := w) (base := base) F_lineOfWords b_lineOfWords T C_draw
  obtain ⟨f_isTest, fd_isTest, F_isTest, b_isTest⟩ := d_isTest
  have C_isTestP := ok_isTestP (P := P) (w := w) (base := base) F_isTest b_isTest T A0
  have C_isTest := ok_isTest (P := P) (w := w) (base := base) F_isTest b_isTest T A0 C_isTestP
  obtain ⟨f_beyond, fd_beyond, F_beyond, b_beyond⟩ := d_beyond
  have C_beyond := ok_beyond (P := P) (w := w) (base := base) F_beyond b_beyond T C_draw C_pick C_anyWord
  obtain ⟨f_isWrongRight, fd_isWrongRight, F_isWrongRight, b_isWrongRight⟩ := d_isWrongRight
  have C_isWrongRight := ok_isWrongRight (P := P) (w := w) (base := base) F_isWrongRight b_isWrongRight T ES tt C_draw C_lineOfWords C_readLinetest
  obtain ⟨f_lawRead, fd_lawRead, F_lawRead, b_lawRead⟩ := d_lawRead
  have C_lawRead := ok_lawRead (P := P) (w := w) (base := base) F_lawRead b_lawRead T ES C_readLinetest
  exact ok_law F T EQ C_pen C_anyTest C_testWords C_lawRead C_lineOfWords C_isTest C_linetestText C_testMade C_isWrongRight C_readLinetest C_beyond C_draw C_anyPlain
end Vf

open PySem PySem.W PyProof.Rows
set_option maxRecDepth 100000 in
set_option maxHeartbeats 0 in
theorem PySem.Challenge.cw_textworkshop_k34_texts_of_line_tests_holds : PySem.Challenge.rw_textworkshop_k34_texts_of_line_tests.Holds := by
  w_on; o_law; k_head; (case hw => w_witness2)
  k_fill
  refine L2.walk_of (l := PySem.Challenge.rw_textworkshop_k34_texts_of_line_tests) (n := 63) (k := 10) (x := "_law_script") (CX := fun _ => C8.CX0) (sp := fun w => Vf.sp_law _) rfl (by decide) rfl ⟨rfl, by decide, by decide⟩ (fun w h Y => PySem.W.kIn_of Y) ?F (fun _ _ a ns hl _ hS => ⟨a, ns, rfl, hS, hl, fun _ => rfl⟩) (fun _ _ _ _ _ h => h)
  case F =>
    intro w mg fa h KX G hmg
    refine' Vf.useIt (Vf.wc_mk (n := "WorkshopError") KX G ?a ?c ?k) (fun eW => ?_)
    (case a => k_is); (case c => k_is); (case k => k_is)
    refine' Vf.useIt (Vf.mt_mk KX ?n ?t) (fun eM => ?_)
    (case n => k_is); (case t => k_is)
    refine' Vf.useIt (Vf.cl_mk (n := "BadText") KX G eW eM ?a ?l ?s ?b ?y ?k ?g ?h ?d ?e ?m) (fun c_BadText => ?_)
    (case a => k_is); (case l => k_is); (case s => k_is); (case b => k_is); (case y => k_is); (case k => k_is); (case g => k_is); (case h => k_is); (case d => k_is); (case e => k_is); (case m => k_is)
    refine' Vf.useIt (Vf.kc_mk2 (st := Vf.i_BadText) c_BadText (f0 := "line") (f1 := "column") ?n0 ?n1 ?i ?t ?l ?c (fun _ _ _ _ _ _ us hl => match us, hl with | [_, _, _], _ => rfl)) (fun k_BadText => ?_)
    (case n0 => k_is); (case n1 => k_is); (case i => k_is); (case t => k_is); (case l => k_is); (case c => k_is)
    refine' Vf.useIt (Vf.cl_mk (n := "BadWord") KX G eW eM ?a ?l ?s ?b ?y ?k ?g ?h ?d ?e ?m) (fun c_BadWord => ?_)
    (case a => k_is); (case l => k_is); (case s => k_is); (case b => k_is); (case y => k_is); (case k => k_is); (case g => k_is); (case h => k_is); (case d => k_is); (case e => k_is); (case m => k_is)
    refine' Vf.useIt (Vf.kc_mk1 (st := Vf.i_BadWord) c_BadWord (f0 := "what") ?n0 ?i ?t ?l ?c (fun _ _ _ _ _ _ us hl => match us, hl with | [_, _], _ => rfl)) (fun k_BadWord => ?_)
    (case n0 => k_is); (case i => k_is); (case t => k_is); (case l => k_is); (case c => k_is)
    refine' Vf.useIt (Vf.cl_mk (n := "BadNumber") KX G eW eM ?a ?l ?s ?b ?y ?k ?g ?h ?d ?e ?m) (fun c_BadNumber => ?_)
    (case a => k_is); (case l => k_is); (case s => k_is); (case b => k_is); (case y => k_is); (case k => k_is); (case g => k_is); (case h => k_is); (case d => k_is); (case e => k_is); (case m => k_is)
    refine' Vf.useIt (Vf.kc_mk2 (st := Vf.i_BadNumber) c_BadNumber (f0 := "what") (f1 := "number") ?n0 ?n1 ?i ?t ?l ?c (fun _ _ _ _ _ _ us hl => match us, hl with | [_, _, _], _ => rfl)) (fun k_BadNumber => ?_)
    (case n0 => k_is); (case n1 => k_is); (case i => k_is); (case t => k_is); (case l => k_is); (case c => k_is)
    refine' Vf.useIt (Vf.lt_mk KX G eM ?a ?l ?pg ?hd ?po ?sa ?e ?m ?n1 ?n2 ?n3 ?n4 ?n5 ?mk ?i ?fi ?kp ?no ?e1 ?e2 ?e3 ?fe ?t ?ft ?kt) (fun LT => ?_)
    (case a => k_is); (case l => k_is); (case pg => k_is); (case hd => k_is); (case po => k_is); (case sa => k_is); (case e => k_is); (case m => k_is); (case n1 => k_is); (case n2 => k_is); (case n3 => k_is); (case n4 => k_is); (case n5 => k_is); (case mk => k_is); (case i => k_is); (case fi => k_is); (case kp => k_is); (case no => first | k_is | kernel_rfl | rfl); (case e1 => k_is); (case e2 => k_is); (case e3 => k_is); (case fe => k_is); (case t => k_is); (case ft => k_is); (case kt => k_is)
    refine' Vf.useIt (Vf.fnm_mk (m := "__init__") (st := Vf.s_LineTest_init) (ps := ["self", "word", "argument", "parts", "negated"]) LT.mI.init ?l ?c (fun _ _ _ _ _ _ us hl => match us, hl with | [_, _, _, _, _], _ => rfl)) (fun nI => ?_)
    (case l => k_is); (case c => k_is)
    refine' Vf.useIt (Vf.fnm_mk (m := "__eq__") (st := Vf.s_LineTest_eq) (ps := ["self", "other"]) LT.eq.hs ?l ?c (fun _ _ _ _ _ _ us hl => match us, hl with | [_, _], _ => rfl)) (fun nE => ?_)
    (case l => k_is); (case c => k_is)
    refine' Vf.useIt (Vf.wr_mk KX G eM ?a ?pg ?hd ?po ?sa ?e ?m ?n1 ?n2 ?n3 ?n4 ?mk ?i ?fi ?kp) (fun WR => ?_)
    (case a => k_is); (case pg => k_is); (case hd => k_is); (case po => k_is); (case sa => k_is); (case e => k_is); (case m => k_is); (case n1 => k_is); (case n2 => k_is); (case n3 => k_is); (case n4 => k_is); (case mk => k_is); (case i => k_is); (case fi => k_is); (case kp => k_is)
    refine' Vf.useIt (Vf.fnm_mk (m := "__init__") (st := Vf.s_WordReader_init) (ps := ["self", "line", "number"]) WR.mI.init ?l ?c (fun _ _ _ _ _ _ us hl => match us, hl with | [_, _, _], _ => rfl)) (fun nR => ?_)
    (case l => k_is); (case c => k_is)
    refine' Vf.useIt (Vf.mn_mk (m := "coming") (st := Vf.s_WordReader_coming) (ps := ["self"]) WR ?t ?ft ?kt ?l ?c (fun _ _ _ _ _ _ us hl => match us, hl with | [_], _ => rfl)) (fun m_coming => ?_)
    (case t => k_is); (case ft => k_is); (case kt => k_is); (case l => k_is); (case c => k_is)
    refine' Vf.useIt (Vf.mn_mk (m := "refuse") (st := Vf.s_WordReader_refuse) (ps := ["self", "kind"]) WR ?t ?ft ?kt ?l ?c (fun _ _ _ _ _ _ us hl => match us, hl with | [_, _], _ => rfl)) (fun m_refuse => ?_)
    (case t => k_is); (case ft => k_is); (case kt => k_is); (case l => k_is); (case c => k_is)
    refine' Vf.useIt (Vf.mn_mk (m := "skipped") (st := Vf.s_WordReader_skipped) (ps := ["self", "word"]) WR ?t ?ft ?kt ?l ?c (fun _ _ _ _ _ _ us hl => match us, hl with | [_, _], _ => rfl)) (fun m_skipped => ?_)
    (case t => k_is); (case ft => k_is); (case kt => k_is); (case l => k_is); (case c => k_is)
    refine' Vf.useIt (Vf.mn_mk (m := "chosen") (st := Vf.s_WordReader_chosen) (ps := ["self", "words"]) WR ?t ?ft ?kt ?l ?c (fun _ _ _ _ _ _ us hl => match us, hl with | [_, _], _ => rfl)) (fun m_chosen => ?_)
    (case t => k_is); (case ft => k_is); (case kt => k_is); (case l => k_is); (case c => k_is)
    refine' Vf.useIt (Vf.mn_mk (m := "_taken") (st := Vf.s_WordReader_taken) (ps := ["self", "kind"]) WR ?t ?ft ?kt ?l ?c (fun _ _ _ _ _ _ us hl => match us, hl with | [_, _], _ => rfl)) (fun m__taken => ?_)
    (case t => k_is); (case ft => k_is); (case kt => k_is); (case l => k_is); (case c => k_is)
    refine' Vf.useIt (Vf.mn_mk (m := "quoted") (st := Vf.s_WordReader_quoted) (ps := ["self"]) WR ?t ?ft ?kt ?l ?c (fun _ _ _ _ _ _ us hl => match us, hl with | [_], _ => rfl)) (fun m_quoted => ?_)
    (case t => k_is); (case ft => k_is); (case kt => k_is); (case l => k_is); (case c => k_is)
    refine' Vf.useIt (Vf.mn_mk (m := "whole") (st := Vf.s_WordReader_whole) (ps := ["self"]) WR ?t ?ft ?kt ?l ?c (fun _ _ _ _ _ _ us hl => match us, hl with | [_], _ => rfl)) (fun m_whole => ?_)
    (case t => k_is); (case ft => k_is); (case kt => k_is); (case l => k_is); (case c => k_is)
    refine' Vf.useIt (Vf.mn_mk (m := "finish") (st := Vf.s_WordReader_finish) (ps := ["self"]) WR ?t ?ft ?kt ?l ?c (fun _ _ _ _ _ _ us hl => match us, hl with | [_], _ => rfl)) (fun m_finish => ?_)
    (case t => k_is); (case ft => k_is); (case kt => k_is); (case l => k_is); (case c => k_is)
    refine' Vf.useIt (Vf.dn_mk (x := "is_text") (st := Vf.s_isText) (ps := ["value"]) KX G ?a ?l ?c ?k (fun _ _ _ _ _ _ us hl => match us, hl with | [_], _ => rfl)) (fun d_isText => ?_)
    (case a => k_is); (case l => k_is); (case c => k_is); (case k => k_is)
    refine' Vf.useIt (Vf.dn_mk (x := "is_patch") (st := Vf.s_isPatch) (ps := ["value"]) KX G ?a ?l ?c ?k (fun _ _ _ _ _ _ us hl => match us, hl with | [_], _ => rfl)) (fun d_isPatch => ?_)
    (case a => k_is); (case l => k_is); (case c => k_is); (case k => k_is)
    refine' Vf.useIt (Vf.dn_mk (x := "is_whole") (st := Vf.s_isWhole) (ps := ["value"]) KX G ?a ?l ?c ?k (fun _ _ _ _ _ _ us hl => match us, hl with | [_], _ => rfl)) (fun d_isWhole => ?_)
    (case a => k_is); (case l => k_is); (case c => k_is); (case k => k_is)
    refine' Vf.useIt (Vf.dn_mk (x := "is_line_word") (st := Vf.s_isLineWord) (ps := ["value"]) KX G ?a ?l ?c ?k (fun _ _ _ _ _ _ us hl => match us, hl with | [_], _ => rfl)) (fun d_isLineWord => ?_)
    (case a => k_is); (case l => k_is); (case c => k_is); (case k => k_is)
    refine' Vf.useIt (Vf.dn_mk (x := "is_within") (st := Vf.s_isWithin) (ps := ["value", "bounds"]) KX G ?a ?l ?c ?k (fun _ _ _ _ _ _ us hl => match us, hl with | [_, _], _ => rfl)) (fun d_isWithin => ?_)
    (case a => k_is); (case l => k_is); (case c => k_is); (case k => k_is)
    refine' Vf.useIt (Vf.dn_mk (x := "is_plain") (st := Vf.s_isPlain) (ps := ["value"]) KX G ?a ?l ?c ?k (fun _ _ _ _ _ _ us hl => match us, hl with | [_], _ => rfl)) (fun d_isPlain => ?_)
    (case a => k_is); (case l => k_is); (case c => k_is); (case k => k_is)
    refine' Vf.useIt (Vf.dn_mkD (x := "plain_test") (st := Vf.s_plainTest) (ps := ["word", "argument"]) KX G ?a ?l ?lT ?c ?k (fun _ _ _ _ _ _ _ us its hl h1 => match us, its, hl, h1 with | [_, _], [_], _, _ => ⟨_, rfl, rfl⟩)) (fun d_plainTest => ?_)
    (case a => k_is); (case l => k_is); (case lT => k_is); (case c => k_is); (case k => k_is)
    refine' Vf.useIt (Vf.dn_mk (x := "range_test") (st := Vf.s_rangeTest) (ps := ["first", "second"]) KX G ?a ?l ?c ?k (fun _ _ _ _ _ _ us hl => match us, hl with | [_, _], _ => rfl)) (fun d_rangeTest => ?_)
    (case a => k_is); (case l => k_is); (case c => k_is); (case k => k_is)
    refine' Vf.useIt (Vf.dn_mk (x := "other_test") (st := Vf.s_otherTest) (ps := ["test"]) KX G ?a ?l ?c ?k (fun _ _ _ _ _ _ us hl => match us, hl with | [_], _ => rfl)) (fun d_otherTest => ?_)
    (case a => k_is); (case l => k_is); (case c => k_is); (case k => k_is)
    refine' Vf.useIt (Vf.dn_mk (x := "_law_pen") (st := Vf.s_pen) (ps := ["_law_script"]) KX G ?a ?l ?c ?k (fun _ _ _ _ _ _ us hl => match us, hl with | [_], _ => rfl)) (fun d_pen => ?_)
    (case a => k_is); (case l => k_is); (case c => k_is); (case k => k_is)
    refine' Vf.useIt (Vf.dn_mk (x := "_law_draw") (st := Vf.s_draw) (ps := ["_law_pen_here", "_law_many"]) KX G ?a ?l ?c ?k (fun _ _ _ _ _ _ us hl => match us, hl with | [_, _], _ => rfl)) (fun d_draw => ?_)
    (case a => k_is); (case l => k_is); (case c => k_is); (case k => k_is)
    refine' Vf.useIt (Vf.dn_mk (x := "_law_pick") (st := Vf.s_pick) (ps := ["_law_pen_here", "_law_some"]) KX G ?a ?l ?c ?k (fun _ _ _ _ _ _ us hl => match us, hl with | [_, _], _ => rfl)) (fun d_pick => ?_)
    (case a => k_is); (case l => k_is); (case c => k_is); (case k => k_is)
    refine' Vf.useIt (Vf.dn_mk (x := "_law_all_signs") (st := Vf.s_allSigns) (ps := []) KX G ?a ?l ?c ?k (fun _ _ _ _ _ _ us hl => match us, hl with | [], _ => rfl)) (fun d_allSigns => ?_)
    (case a => k_is); (case l => k_is); (case c => k_is); (case k => k_is)
    refine' Vf.useIt (Vf.dn_mk (x := "_law_any_sign") (st := Vf.s_anySign) (ps := ["_law_pen_here", "_law_line"]) KX G ?a ?l ?c ?k (fun _ _ _ _ _ _ us hl => match us, hl with | [_, _], _ => rfl)) (fun d_anySign => ?_)
    (case a => k_is); (case l => k_is); (case c => k_is); (case k => k_is)
    refine' Vf.useIt (Vf.dn_mk (x := "_law_any_word") (st := Vf.s_anyWord) (ps := ["_law_pen_here", "_law_least", "_law_most", "_law_line"]) KX G ?a ?l ?c ?k (fun _ _ _ _ _ _ us hl => match us, hl with | [_, _, _, _], _ => rfl)) (fun d_anyWord => ?_)
    (case a => k_is); (case l => k_is); (case c => k_is); (case k => k_is)
    refine' Vf.useIt (Vf.dn_mk (x := "_law_quoted") (st := Vf.s_quoted) (ps := ["_law_word"]) KX G ?a ?l ?c ?k (fun _ _ _ _ _ _ us hl => match us, hl with | [_], _ => rfl)) (fun d_quoted => ?_)
    (case a => k_is); (case l => k_is); (case c => k_is); (case k => k_is)
    refine' Vf.useIt (Vf.dn_mk (x := "run_end") (st := Vf.s_runEnd) (ps := ["line", "at", "signs"]) KX G ?a ?l ?c ?k (fun _ _ _ _ _ _ us hl => match us, hl with | [_, _, _], _ => rfl)) (fun d_runEnd => ?_)
    (case a => k_is); (case l => k_is); (case c => k_is); (case k => k_is)
    refine' Vf.useIt (Vf.dn_mk (x := "quoted_at") (st := Vf.s_quotedAt) (ps := ["line", "at"]) KX G ?a ?l ?c ?k (fun _ _ _ _ _ _ us hl => match us, hl with | [_, _], _ => rfl)) (fun d_quotedAt => ?_)
    (case a => k_is); (case l => k_is); (case c => k_is); (case k => k_is)
    refine' Vf.useIt (Vf.dn_mk (x := "quoted_text") (st := Vf.s_quotedText) (ps := ["word"]) KX G ?a ?l ?c ?k (fun _ _ _ _ _ _ us hl => match us, hl with | [_], _ => rfl)) (fun d_quotedText => ?_)
    (case a => k_is); (case l => k_is); (case c => k_is); (case k => k_is)
    refine' Vf.useIt (Vf.dn_mk (x := "number_at") (st := Vf.s_numberAt) (ps := ["line", "at"]) KX G ?a ?l ?c ?k (fun _ _ _ _ _ _ us hl => match us, hl with | [_, _], _ => rfl)) (fun d_numberAt => ?_)
    (case a => k_is); (case l => k_is); (case c => k_is); (case k => k_is)
    refine' Vf.useIt (Vf.dn_mk (x := "word_at") (st := Vf.s_wordAt) (ps := ["line", "at"]) KX G ?a ?l ?c ?k (fun _ _ _ _ _ _ us hl => match us, hl with | [_, _], _ => rfl)) (fun d_wordAt => ?_)
    (case a => k_is); (case l => k_is); (case c => k_is); (case k => k_is)
    refine' Vf.useIt (Vf.dn_mk (x := "line_words") (st := Vf.s_lineWords) (ps := ["line"]) KX G ?a ?l ?c ?k (fun _ _ _ _ _ _ us hl => match us, hl with | [_], _ => rfl)) (fun d_lineWords => ?_)
    (case a => k_is); (case l => k_is); (case c => k_is); (case k => k_is)
    refine' Vf.useIt (Vf.dn_mk (x := "plain_form") (st := Vf.s_plainForm) (ps := ["words"]) KX G ?a ?l ?c ?k (fun _ _ _ _ _ _ us hl => match us, hl with | [_], _ => rfl)) (fun d_plainForm => ?_)
    (case a => k_is); (case l => k_is); (case c => k_is); (case k => k_is)
    refine' Vf.useIt (Vf.dn_mk (x := "linetest_form") (st := Vf.s_linetestForm) (ps := ["words"]) KX G ?a ?l ?c ?k (fun _ _ _ _ _ _ us hl => match us, hl with | [_], _ => rfl)) (fun d_linetestForm => ?_)
    (case a => k_is); (case l => k_is); (case c => k_is); (case k => k_is)
    refine' Vf.useIt (Vf.dn_mk (x := "made_linetest") (st := Vf.s_madeLinetest) (ps := ["form"]) KX G ?a ?l ?c ?k (fun _ _ _ _ _ _ us hl => match us, hl with | [_], _ => rfl)) (fun d_madeLinetest => ?_)
    (case a => k_is); (case l => k_is); (case c => k_is); (case k => k_is)
    refine' Vf.useIt (Vf.dn_mk (x := "read_linetest") (st := Vf.s_readLinetest) (ps := ["line"]) KX G ?a ?l ?c ?k (fun _ _ _ _ _ _ us hl => match us, hl with | [_], _ => rfl)) (fun d_readLinetest => ?_)
    (case a => k_is); (case l => k_is); (case c => k_is); (case k => k_is)
    refine' Vf.useIt (Vf.dn_mk (x := "linetest_text") (st := Vf.s_linetestText) (ps := ["test"]) KX G ?a ?l ?c ?k (fun _ _ _ _ _ _ us hl => match us, hl with | [_], _ => rfl)) (fun d_linetestText => ?_)
    (case a => k_is); (case l => k_is); (case c => k_is); (case k => k_is)
    refine' Vf.useIt (Vf.dn_mk (x := "_law_test_made") (st := Vf.s_testMade) (ps := ["_law_check"]) KX G ?a ?l ?c ?k (fun _ _ _ _ _ _ us hl => match us, hl with | [_], _ => rfl)) (fun d_testMade => ?_)
    (case a => k_is); (case l => k_is); (case c => k_is); (case k => k_is)
    refine' Vf.useIt (Vf.dn_mk (x := "_law_any_plain") (st := Vf.s_anyPlain) (ps := ["_law_pen_here"]) KX G ?a ?l ?c ?k (fun _ _ _ _ _ _ us hl => match us, hl with | [_], _ => rfl)) (fun d_anyPlain => ?_)
    (case a => k_is); (case l => k_is); (case c => k_is); (case k => k_is)
    refine' Vf.useIt (Vf.dn_mk (x := "_law_any_test") (st := Vf.s_anyTest) (ps := ["_law_pen_here"]) KX G ?a ?l ?c ?k (fun _ _ _ _ _ _ us hl => match us, hl with | [_], _ => rfl)) (fun d_anyTest => ?_)
    (case a => k_is); (case l => k_is); (case c => k_is); (case k => k_is)
    refine' Vf.useIt (Vf.dn_mk (x := "_law_test_words") (st := Vf.s_testWords) (ps := ["_law_check"]) KX G ?a ?l ?c ?k (fun _ _ _ _ _ _ us hl => match us, hl with | [_], _ => rfl)) (fun d_testWords => ?_)
    (case a => k_is); (case l => k_is); (case c => k_is); (case k => k_is)
    refine' Vf.useIt (Vf.dn_mk (x := "_law_line_of_words") (st := Vf.s_lineOfWords) (ps := ["_law_pen_here", "_law_words"]) KX G ?a ?l ?c ?k (fun _ _ _ _ _ _ us hl => match us, hl with | [_, _], _ => rfl)) (fun d_lineOfWords => ?_)
    (case a => k_is); (case l => k_is); (case c => k_is); (case k => k_is)
    refine' Vf.useIt (Vf.dn_mk (x := "_law_is_test") (st := Vf.s_isTest) (ps := ["_law_made", "_law_check"]) KX G ?a ?l ?c ?k (fun _ _ _ _ _ _ us hl => match us, hl with | [_, _], _ => rfl)) (fun d_isTest => ?_)
    (case a => k_is); (case l => k_is); (case c => k_is); (case k => k_is)
    refine' Vf.useIt (Vf.dn_mk (x := "_law_beyond") (st := Vf.s_beyond) (ps := ["_law_pen_here", "_law_check"]) KX G ?a ?l ?c ?k (fun _ _ _ _ _ _ us hl => match us, hl with | [_, _], _ => rfl)) (fun d_beyond => ?_)
    (case a => k_is); (case l => k_is); (case c => k_is); (case k => k_is)
    refine' Vf.useIt (Vf.dn_mk (x := "_law_is_wrong_right") (st := Vf.s_isWrongRight) (ps := ["_law_pen_here", "_law_words"]) KX G ?a ?l ?c ?k (fun _ _ _ _ _ _ us hl => match us, hl with | [_, _], _ => rfl)) (fun d_isWrongRight => ?_)
    (case a => k_is); (case l => k_is); (case c => k_is); (case k => k_is)
    refine' Vf.useIt (Vf.dn_mk (x := "_law_read") (st := Vf.s_lawRead) (ps := ["_law_line"]) KX G ?a ?l ?c ?k (fun _ _ _ _ _ _ us hl => match us, hl with | [_], _ => rfl)) (fun d_lawRead => ?_)
    (case a => k_is); (case l => k_is); (case c => k_is); (case k => k_is)
    refine' Vf.useIt (Vf.xf_mk c_BadWord c_BadNumber ?bb ?nb ?nn ?bn ?kb ?kn) (fun XFH => ?_)
    (case bb => kernel_rfl); (case nb => kernel_rfl); (case nn => kernel_rfl); (case bn => kernel_rfl); (case kb => kernel_rfl); (case kn => kernel_rfl)
    refine' Vf.useIt (Vf.tt_mk c_BadText ?tt) (fun TTH => ?_)
    (case tt => kernel_rfl)
    refine' Vf.useT (w := w) KX ⟨PySem.W.mg_none_of KX G ?z_all, PySem.W.mg_none_of KX G ?z_str, PySem.W.mg_none_of KX G ?z_isinstance, PySem.W.mg_none_of KX G ?z_len, PySem.W.mg_none_of KX G ?z_bool, PySem.W.mg_none_of KX G ?z_int, PySem.W.mg_none_of KX G ?z_tuple, PySem.W.mg_none_of KX G ?z_list, PySem.W.mg_none_of KX G ?z_range, PySem.W.mg_none_of KX G ?z_max, Vf.cst_str KX G ?a_SIGNS ?e_SIGNS, Vf.cst_int KX G ?a_LONGEST_WORD, Vf.cst_tup KX G ?a_WORD_TESTS ?l_WORD_TESTS ?v_WORD_TESTS ?s_WORD_TESTS, Vf.cst_tup KX G ?a_NUMBER_TESTS ?l_NUMBER_TESTS ?v_NUMBER_TESTS ?s_NUMBER_TESTS, Vf.cst_tup KX G ?a_BARE_TESTS ?l_BARE_TESTS ?v_BARE_TESTS ?s_BARE_TESTS, Vf.cst_bounds KX G ?a_b ?l_b ?k_b ?w_b ?la_b ?lb_b, Vf.cst_str KX G ?a_LETTERS ?e_LETTERS, Vf.cst_str KX G ?a_FIGURES ?e_FIGURES, Vf.cst_int KX G ?a_MOST_FIGURES, Vf.cst_kd KX G ?a_MEANINGS ?l_MEANINGS ?k_MEANINGS ?w_MEANINGS ?f_MEANINGS, Vf.cst_kd KX G ?a_ESCAPES ?l_ESCAPES ?k_ESCAPES ?w_ESCAPES ?f_ESCAPES⟩ (fun T => ?_)
    (case z_all => k_is)
    (case z_str => k_is)
    (case z_isinstance => k_is)
    (case z_len => k_is)
    (case z_bool => k_is)
    (case z_int => k_is)
    (case z_tuple => k_is)
    (case z_list => k_is)
    (case z_range => k_is)
    (case z_max => k_is)
    (case a_SIGNS => k_is)
    (case e_SIGNS => decide +kernel)
    (case a_LONGEST_WORD => k_is)
    (case a_WORD_TESTS => k_is)
    (case l_WORD_TESTS => k_is)
    (case v_WORD_TESTS => exact .cons ⟨_, rfl⟩ (.cons ⟨_, rfl⟩ (.cons ⟨_, rfl⟩ (.cons ⟨_, rfl⟩ (.nil)))))
    (case s_WORD_TESTS => decide)
    (case a_NUMBER_TESTS => k_is)
    (case l_NUMBER_TESTS => k_is)
    (case v_NUMBER_TESTS => exact .cons ⟨_, rfl⟩ (.cons ⟨_, rfl⟩ (.nil)))
    (case s_NUMBER_TESTS => decide)
    (case a_BARE_TESTS => k_is)
    (case l_BARE_TESTS => k_is)
    (case v_BARE_TESTS => exact .cons ⟨_, rfl⟩ (.cons ⟨_, rfl⟩ (.nil)))
    (case s_BARE_TESTS => decide)
    (case a_b => k_is)
    (case l_b => k_is)
    (case k_b => exact ⟨⟨_, _, rfl, rfl⟩, ⟨⟨_, _, rfl, rfl⟩, trivial⟩⟩)
    (case w_b => decide)
    (case la_b => k_is)
    (case lb_b => k_is)
    (case a_LETTERS => k_is)
    (case e_LETTERS => decide +kernel)
    (case a_FIGURES => k_is)
    (case e_FIGURES => decide +kernel)
    (case a_MOST_FIGURES => k_is)
    (case a_MEANINGS => k_is)
    (case l_MEANINGS => k_is)
    (case k_MEANINGS => exact ⟨⟨_, _, rfl, rfl⟩, ⟨⟨_, _, rfl, rfl⟩, ⟨⟨_, _, rfl, rfl⟩, trivial⟩⟩⟩)
    (case w_MEANINGS => decide)
    (case f_MEANINGS => exact Vf.kd3)
    (case a_ESCAPES => k_is)
    (case l_ESCAPES => k_is)
    (case k_ESCAPES => exact ⟨⟨_, _, rfl, rfl⟩, ⟨⟨_, _, rfl, rfl⟩, ⟨⟨_, _, rfl, rfl⟩, trivial⟩⟩⟩)
    (case w_ESCAPES => decide)
    (case f_ESCAPES => exact Vf.kd3)
    refine' Vf.law_end KX G hmg ?a ?l ?c ?k (fun base fd F => Vf.all_ok T d_isText d_isPatch d_isWhole d_isLineWord d_isWithin d_isPlain d_plainTest d_rangeTest d_otherTest d_pen d_draw d_pick d_allSigns d_anySign d_anyWord d_quoted d_runEnd d_quotedAt d_quotedText d_numberAt d_wordAt d_lineWords d_plainForm d_linetestForm d_madeLinetest d_readLinetest d_linetestText d_testMade d_anyPlain d_anyTest d_testWords d_lineOfWords d_isTest d_beyond d_isWrongRight d_lawRead LT nI nE WR nR m_coming m_refuse m_skipped m_chosen m__taken m_quoted m_whole m_finish k_BadText k_BadWord k_BadNumber eW.1 XFH TTH base F)
    (case a => k_is); (case l => k_is); (case c => k_is); (case k => k_is)
