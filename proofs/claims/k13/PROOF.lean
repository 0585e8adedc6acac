import PyProof.Rows.All
import Wide.All
import OpenK.AllK
import Wide.FinOn
import HandS.ForMost
import HandS.Codes
import HandS.Wide
import HandS.ReplaceLit
import HandS.ReplaceDef
import HandS.IsInst
import HandS.More
import HandS.StrMore
import HandS.Flow
import HandS.Zip
import HandS.ExcInit
import HandS.ExcField
import HandS.ExcIs
import HandS.ExcOwn
import HandS.TryMany
import HandS.OwnEq
import HandS.FStr
import HandS.Star
import HandS.WordsExc
import PyProof.InstNe
import HandS.ExcValue
import HandS.RaiseMore
import HandS.Lambda
import HandS.EndTab
import KE.KNest
import KE.KSortKey
import HandS.SortKw
import HandS.Iter
import PyProof.ListStr
import PyProof.Draws
import KE.GoesEnumKw
import KE.KDictDisplayH
import KE.KOwnIter
import HandS.IterVal
import HandS.DictTup
import PyProof.Rows.TupDisplay
import HandS.Walk
import HandS.Set
import HandS.SetTxt0
import HandS.SetFor
import HandS.Strs
import HandS.Style
import HandS.Deep
import HandS.TupAny
import HandS.Text
import PyProof.StrLawsIn
import HandS.Conv
import HandS.Defaults
import KE.KUnpackStar
import PyProof.CollectStr
import KE.KDictZip
import KE.GoesZip
import PyProof.CollectWalk
import PyProof.GenQ
import PyProof.TupleOfGen
import KE.GoesEnum
import HandS.Rev
import PySem.Challenge.RW_textworkshop_k13_whole_sign_by_sign
set_option Elab.async false
set_option linter.all false
set_option maxRecDepth 100000
set_option maxHeartbeats 4000000
namespace Vf
open PySem PySem.Spec PyProof.Rows L2 SX

/-! ### heaps: all but dicts stays -/
def Ks (H H' : Hp) : Prop := (∀ b o, H b = some o → (∀ kvs, o ≠ .dK kvs) → H' b = some o) ∧ ∀ b, H' b = none → H b = none
def Tk (H H' : Hp) : Prop := ∀ b xs, H b = some (.tup xs) → H' b = some (.tup xs)
section
variable {K : PySem.W.Frag} {H H1 H2 H0 : Hp} {a p q : Addr} {xs : List V} {o : HO}
theorem Ks.refl (H : Hp) : Ks H H := ⟨fun _ _ h _ => h, fun _ h => h⟩
theorem Ks.trans (a : Ks H H1) (b : Ks H1 H2) : Ks H H2 := ⟨fun c o h n => b.1 c o (a.1 c o h n) n, fun c h => a.2 c (b.2 c h)⟩
theorem Ks.of (s : Same H H1) : Ks H H1 := ⟨fun b o h _ => s b o h, fun b h => s.free h⟩
theorem Ks.tk (s : Ks H H1) : Tk H H1 := fun b xs h => s.1 b _ h (fun _ e => nomatch e)
theorem Ks.lst (s : Ks H H1) (h : H a = some (.lst xs)) : H1 a = some (.lst xs) := s.1 a _ h (fun _ e => nomatch e)
theorem Ks.tup (s : Ks H H1) (h : H a = some (.tup xs)) : H1 a = some (.tup xs) := s.1 a _ h (fun _ e => nomatch e)
theorem Ks.seq (s : Ks H H1) (h : SqL K H a xs) : SqL K H1 a xs := by
  rcases h with (h | ⟨o, h⟩) | h
  · exact .inl (.inl (s.1 _ _ h (fun _ e => nomatch e)))
  · exact .inl (.inr ⟨o, s.1 _ _ h (fun _ e => nomatch e)⟩)
  · exact .inr h
theorem Ks.seqT (s : Ks H H1) (h : SqT K H a xs) : SqT K H1 a xs := by
  rcases h with (h | ⟨o, h⟩) | h
  · exact .inl (.inl (s.1 _ _ h (fun _ e => nomatch e)))
  · exact .inl (.inr ⟨o, s.1 _ _ h (fun _ e => nomatch e)⟩)
  · exact .inr h
theorem Ks.free (s : Ks H H1) (h : H1 a = none) : H a = none := s.2 a h
theorem Ks.upd (s : Ks H0 H) (h : H0 p = none) (o : HO) : Ks H0 (upd H p o) := ⟨fun b u e n => by
  rw [upd_ne (ne_of_none e h)]
  exact s.1 b u e n, fun b e => by
  by_cases z : b = p
  · rw [z]; exact h
  · rw [upd_ne z] at e
    exact s.2 b e⟩
theorem Ks.new (s : Ks H0 H) (h : H p = none) (o : HO) : Ks H0 (L2.upd H p o) := s.upd (s.free h) o
theorem Ks.new1 (h : H p = none) (o : HO) : Ks H (L2.upd H p o) := (Ks.refl H).upd h o
theorem Ks.dict {kvs kvs' : List (Key × V)} (h : H p = some (.dK kvs)) : Ks H (L2.upd H p (.dK kvs')) := ⟨fun b u e n => by
  rw [upd_ne (fun z => by rw [z, h] at e; exact n kvs (Option.some.inj e).symm)]
  exact e, fun b e => by
  by_cases z : b = p
  · rw [z, upd_same] at e; cases e
  · rw [upd_ne z] at e; exact e⟩
theorem Tk.refl (H : Hp) : Tk H H := fun _ _ h => h
theorem Tk.trans (a : Tk H H1) (b : Tk H1 H2) : Tk H H2 := fun c xs h => b c xs (a c xs h)
theorem Tk.lst {ys : List V} (s : Tk H0 H) (h : H p = some (.lst ys)) : Tk H0 (L2.upd H p o) := fun b zs e => by
  have e1 := s b zs e
  rw [upd_ne (fun z => by rw [z, h] at e1; cases e1)]
  exact e1
theorem Tk.new (s : Tk H0 H) (h : H p = none) : Tk H0 (L2.upd H p o) := fun b zs e => by
  have e1 := s b zs e
  rw [upd_ne (ne_of_none e1 h)]
  exact e1
end
theorem szB {n : Nat} (h : n ≤ 1000000) : n ≤ sizeLine := Nat.le_trans h (by decide)
theorem szL {n : Nat} (h : n ≤ 1000000) : n < sizeLine := Nat.lt_of_le_of_lt h (by decide)
theorem sz24 {n : Nat} (h : n ≤ 1000000) : n ≤ 16777216 := Nat.le_trans h (by decide)

def signsL : List Nat := [10, 32, 33, 34, 35, 36, 38, 39, 40, 41, 42, 43, 44, 45, 46, 47, 48, 49, 50, 51, 52, 53, 54, 55, 56, 57, 58, 59, 60, 61, 62, 63, 64, 65, 66, 67, 68, 69, 70, 71, 72, 73, 74, 75, 76, 77, 78, 79, 80, 81, 82, 83, 84, 85, 86, 87, 88, 89, 90, 91, 92, 93, 94, 95, 96, 97, 98, 99, 100, 101, 102, 103, 104, 105, 106, 107, 108, 109, 110, 111, 112, 113, 114, 115, 116, 117, 118, 119, 120, 121, 122, 123, 124, 125, 126]
def lowL : List Nat := [97, 98, 99, 100, 101, 102, 103, 104, 105, 106, 107, 108, 109, 110, 111, 112, 113, 114, 115, 116, 117, 118, 119, 120, 121, 122]
def figL : List Nat := [48, 49, 50, 51, 52, 53, 54, 55, 56, 57]
/-! ### the pen: a dict of five entries -/
def pk (c : Addr) (at_ d ct fo : Int) : List (Key × V) := [(.inr "cells", .ref c), (.inr "at", .int at_), (.inr "digits", .int d), (.inr "count", .int ct), (.inr "fold", .int fo)]
def PenAt (H : Hp) (p c : Addr) (m : Nat) : Prop := ∃ (ns : List Int) (at_ d ct fo : Int), H p = some (.dK (pk c at_ d ct fo)) ∧ H c = some (.lst (ns.map V.int)) ∧ ns.length ≤ 63 ∧
  0 ≤ at_ ∧ 0 ≤ d ∧ 0 ≤ ct ∧ ct ≤ (m : Int) ∧ 0 ≤ fo ∧ fo < 2147483648
section
variable {H H1 : Hp} {p c q : Addr} {m n : Nat} {o : HO}
theorem PenAt.mono (h : PenAt H p c m) (l : m ≤ n) : PenAt H p c n := by
  obtain ⟨ns, a, d, t, f, h1, h2, h3, h4, h5, h6, h7, h8, h9⟩ := h
  exact ⟨ns, a, d, t, f, h1, h2, h3, h4, h5, h6, by omega, h8, h9⟩
theorem PenAt.upd (h : PenAt H p c m) (n1 : q ≠ p) (n2 : q ≠ c) : PenAt (L2.upd H q o) p c m := by
  obtain ⟨ns, a, d, t, f, h1, h2, r⟩ := h
  exact ⟨ns, a, d, t, f, by rw [upd_ne n1.symm]; exact h1, by rw [upd_ne n2.symm]; exact h2, r⟩
theorem PenAt.ne (h : PenAt H p c m) (e : H q = none) : q ≠ p ∧ q ≠ c := by
  obtain ⟨ns, a, d, t, f, h1, h2, r⟩ := h
  exact ⟨(ne_of_none h1 e).symm, (ne_of_none h2 e).symm⟩
theorem PenAt.new (h : PenAt H p c m) (e : H q = none) : PenAt (L2.upd H q o) p c m := h.upd (h.ne e).1 (h.ne e).2
theorem PenAt.same (h : PenAt H p c m) (s : Same H H1) : PenAt H1 p c m := by
  obtain ⟨ns, a, d, t, f, h1, h2, r⟩ := h
  exact ⟨ns, a, d, t, f, s _ _ h1, s _ _ h2, r⟩
end

section
variable {H : Hp} {p c : Addr} {a d t f z : Int}
theorem pg_cells (h : H p = some (.dK (pk c a d t f))) : DGet H p (.str "cells") (some (.ref c)) := .inl ⟨_, Sum.inr "cells", .inl h, rfl, rfl⟩
theorem pg_at (h : H p = some (.dK (pk c a d t f))) : DGet H p (.str "at") (some (.int a)) := .inl ⟨_, Sum.inr "at", .inl h, rfl, rfl⟩
theorem pg_digits (h : H p = some (.dK (pk c a d t f))) : DGet H p (.str "digits") (some (.int d)) := .inl ⟨_, Sum.inr "digits", .inl h, rfl, rfl⟩
theorem pg_count (h : H p = some (.dK (pk c a d t f))) : DGet H p (.str "count") (some (.int t)) := .inl ⟨_, Sum.inr "count", .inl h, rfl, rfl⟩
theorem pg_fold (h : H p = some (.dK (pk c a d t f))) : DGet H p (.str "fold") (some (.int f)) := .inl ⟨_, Sum.inr "fold", .inl h, rfl, rfl⟩
theorem pp_at (h : H p = some (.dK (pk c a d t f))) : DPut H p (.str "at") (.int z) (upd H p (.dK (pk c z d t f))) := .inl ⟨_, Sum.inr "at", h, rfl, szL (by show 5 ≤ 1000000; decide), rfl⟩
theorem pp_digits (h : H p = some (.dK (pk c a d t f))) : DPut H p (.str "digits") (.int z) (upd H p (.dK (pk c a z t f))) := .inl ⟨_, Sum.inr "digits", h, rfl, szL (by show 5 ≤ 1000000; decide), rfl⟩
theorem pp_count (h : H p = some (.dK (pk c a d t f))) : DPut H p (.str "count") (.int z) (upd H p (.dK (pk c a d z f))) := .inl ⟨_, Sum.inr "count", h, rfl, szL (by show 5 ≤ 1000000; decide), rfl⟩
theorem pp_fold (h : H p = some (.dK (pk c a d t f))) : DPut H p (.str "fold") (.int z) (upd H p (.dK (pk c a d t z))) := .inl ⟨_, Sum.inr "fold", h, rfl, szL (by show 5 ≤ 1000000; decide), rfl⟩
end

theorem ix_tupK {X : Cx} {K : PySem.W.Frag} (hK : X.K = K) : IxR X (rIxT K) := by subst hK; exact ix_tup
theorem ix_listK {X : Cx} {K : PySem.W.Frag} (hK : X.K = K) : IxR X (rIxL K) := by subst hK; exact ix_list
theorem ix_seqK {X : Cx} {K : PySem.W.Frag} (hK : X.K = K) : IxR X (rIx K) := by subst hK; exact ix_seq
theorem op_in_seqK {X : Cx} {K : PySem.W.Frag} (hK : X.K = K) : OpR X (compareOp .In) (rIn K false) := by subst hK; exact op_in_seq
theorem pe_c0 {X : Cx} {k j : Nat} {x : Str} {sp : Sp} {dvs : List V} {p pos : Pos} (c : C8.Cal X.prog X.w X.K X.mg X.base k x sp dvs) (hr : Room j X.A) (hk : k ≤ j) (hg : Gl X x) (hdb : (x == ("__debug__" : Str)) = false := by decide) :
    PE X (.Call (.Name x p) [] [] pos) (tCall sp dvs C8.E0 tNil) := by
  obtain ⟨f, fd, ps, ds, F, hm, kp, b, d⟩ := c.ex
  exact pe_call0 F (hr.mono hk) hg hm kp b d C8.pass0 hdb

/-! ### '..' * n -/
def repL (n : Nat) (l : List Nat) : List Nat := (List.replicate n l).flatten
theorem rep_nil : ∀ n : Nat, repL n [] = []
  | 0 => rfl
  | n + 1 => rep_nil n
theorem rep_len (l : List Nat) : ∀ n : Nat, (repL n l).length = n * l.length
  | 0 => by rw [Nat.zero_mul]; rfl
  | n + 1 => by
    show (l ++ repL n l).length = _
    rw [List.length_append, rep_len l n, Nat.succ_mul, Nat.add_comm]
theorem fold_rep (l acc : List Nat) : ∀ n : Nat, ((List.replicate n l.toArray).foldl (· ++ ·) acc.toArray) = (acc ++ repL n l).toArray
  | 0 => by
    show acc.toArray = (acc ++ []).toArray
    rw [List.append_nil]
  | n + 1 => by
    rw [List.replicate_succ, List.foldl_cons]
    rw [List.append_toArray acc l, fold_rep l (acc ++ l) n]
    unfold repL
    rw [List.replicate_succ, List.flatten_cons, List.append_assoc]
theorem op_rep_str {X : Cx} : OpR X (binaryOp .Mult) (fun x y H Q => ∃ (l : List Nat) (n : Nat), x = .str (S l) ∧ y = .int (n : Int) ∧ n ≤ 1000000 ∧ l.length * n ≤ 1000000 ∧ Q (.str (S (repL n l))) H) := by
  intro pins s σ H x y v u Q I rx ry h
  obtain ⟨l, n, rfl, rfl, hn, hl, q⟩ := h
  obtain ⟨t, rfl⟩ := rx
  obtain ⟨t', rfl⟩ := ry
  have e63 : (2 : Int) ^ 63 = 9223372036854775808 := by decide
  refine PySem.P.mul_str ?_ ?_ ?_ ?_
  · rw [decide_eq_false (by omega), decide_eq_false (by omega)]; rfl
  · intro h1 h2
    rw [S_len]
    have h3 : (1 : Int) ≤ n := by omega
    have h4 : (l.length : Int) * n ≤ 1000000 := by (rw [← Int.natCast_mul]; omega)
    have h5 : (l.length : Int) ≤ (2 ^ 63 - 1) / (n : Int) := by
      rw [Int.le_ediv_iff_mul_le (by omega)]
      omega
    omega
  · intro h1 h2
    rw [S_len]
    unfold Builtin.Str.tooLong
    have e : (sizeLine : Nat) = 16777216 := by decide
    rw [e]
    exact decide_eq_false (by rw [Int.toNat_natCast]; omega)
  · have r0 : repL 0 l = [] := rfl
    have r1 : repL 1 l = l := List.append_nil l
    by_cases c0 : n = 0
    · subst c0
      rw [if_pos (by decide)]
      exact ⟨by decide, ⟨.str (S (repL 0 l)), H, I.tok _, ⟨_, rfl⟩, q⟩⟩
    · rw [if_neg (by omega)]
      by_cases c1 : ((n : Int) == 1 || (S l).length == 0) = true
      · rw [if_pos c1]
        have er : repL n l = l := by
          rw [Bool.or_eq_true] at c1
          rcases c1 with c1 | c1
          · have : n = 1 := by
              have := of_decide_eq_true c1
              omega
            rw [this, r1]
          · rw [S_len] at c1
            have : l = [] := List.eq_nil_of_length_eq_zero (eq_of_beq c1)
            subst this
            exact rep_nil n
        rw [er] at q
        exact ⟨.str (S l), H, I, ⟨_, rfl⟩, q⟩
      · rw [if_neg c1]
        have e := fold_rep l [] n
        have e' : ((List.replicate n l.toArray).foldl (· ++ ·) #[]) = (repL n l).toArray := e
        have e2 : (n : Int).toNat = n := Int.toNat_natCast n
        have e3 : (⟨(List.replicate (n : Int).toNat (S l).cps).foldl (· ++ ·) #[]⟩ : Str) = S (repL n l) := by
          rw [e2]
          exact congrArg Str.mk e'
        rw [e3]
        have e24 : (sizeLine : Nat) = 16777216 := by decide
        refine ⟨?_, ⟨.str (S (repL n l)), H, I.tok _, ⟨_, rfl⟩, q⟩⟩
        have el := rep_len l n
        rw [S_len, el, e24, Nat.mul_comm]
        omega

/-! ### D.get(key, x) of a dict of the module, keys texts -/
def KD (K : PySem.W.Frag) (w : World) (d : Addr) (f : Str → Option V) : Prop := ∃ es n, K.lookup d = some ⟨.type "dict", none, .dict es n, #[]⟩ ∧ PySem.W.KeysLit w.params es.toList ∧ (d == sysModules) = false ∧ ∀ z, RelO (f z) (findBy Value.isStrOf es z)
def tKGet (K : PySem.W.Frag) (w : World) (td ty tx : TE) : TE := fun σ H Q => td σ H fun x H1 => ∃ d f, x = .ref d ∧ KD K w d f ∧ ty σ H1 fun y H2 => tx σ H2 fun z H3 => ∃ k, y = .str k ∧ Q ((f k).getD z) H3
theorem pe_kget {X : Cx} {o e f : Expr} {apos cpos : Pos} {td ty tx : TE} {K : PySem.W.Frag} {w : World} (hK : X.K = K) (hw : X.w = w) (ho : PE X o td) (he : PE X e ty) (hf : PE X f tx) (m : M2 X o "get" apos e f cpos) : PE X (.Call (.Attribute o "get" apos) [e, f] [] cpos) (tKGet K w td ty tx) := by
  subst hK hw
  refine ⟨fun pins s σ H Q I h => ?_⟩
  refine wpAny_Call_method m.base m.few m.line PySem.F.plainAttrs_dict PySem.F.slot_dict_get PySem.F.type_dict_get (thn (ho.run pins s σ H _ I h) fun u s1 ⟨x, H1, I1, rx, d, g, ex, ⟨es, n, hl, hk, low, hg⟩, q1⟩ => ?_)
  subst ex
  obtain rfl : u = Value.ref d := rx
  have hm := PySem.W.mapOf_K (prog := X.prog) (w := X.w) I1.kIn hl hk
  refine ⟨hm.typeIs, fun b q => ?_, ?_⟩
  · cases q
    exact ⟨_, I1.kIn _ _ hl, rfl⟩
  rw [m.trees]
  refine Calls.callWith_builtin rfl (Calls.evalArgs_plain (Calls.spliced_cons (thn (he.run pins s1 σ H1 _ I1 q1) fun iv s2 ⟨y, H2, I2, ry, q2⟩ =>
    Calls.spliced_cons (thn (hf.run pins s2 σ H2 _ I2 q2) fun fv s3 ⟨z, H3, I3, rz, k, ey, q3⟩ => Calls.spliced_nil ?_))))
  subst ey
  obtain ⟨t, rfl⟩ := ry
  have hm3 := PySem.W.mapOf_K (prog := X.prog) (w := X.w) I3.kIn hl hk
  refine call_meetsIn PySem.F.slot_dict_get hm3.typeIs PySem.F.entry_dict_get (PySem.F.args_dict_get_3 _ _ _) (meets_dict_get_default (strKind X.prog X.w) d (strKind_is X.prog X.w k t) low fv) ⟨_, hm3, ⟨_, H3, I3.tok _, ?_, q3⟩⟩
  exact (hg k).getD rz
end Vf

set_option maxRecDepth 100000
set_option maxHeartbeats 4000000
namespace Vf
open PySem PySem.Spec PyProof.Rows L2 SX
/-! ### defs that may raise -/
structure CalX (P : Program) (w : World) (K : PySem.W.Frag) (mg : Str → Option Value) (base : Heap) (k : Nat) (x : Str) (sp : Sp) : Prop where
  ex : ∃ (f : Addr) (fd : FuncData) (ps : List Str), FnOk P w K mg base (L2.CX P w) k f fd ps sp ∧ mg x = some (.ref f) ∧ PySem.W.keepIn K (.ref f) = true ∧ Binds K fd ps []
structure MetX (P : Program) (w : World) (K : PySem.W.Frag) (mg : Str → Option Value) (base : Heap) (k : Nat) (C : Addr) (m : Str) (sp : Sp) : Prop where
  ex : ∃ (f : Addr) (fd : FuncData) (ps : List Str), Cls K C ∧ Meth K C m f ∧ FnOk P w K mg base (L2.CX P w) k f fd ps sp ∧ Binds K fd ps []
section
variable {P : Program} {w : World} {K : PySem.W.Frag} {mg : Str → Option Value} {base : Heap}
theorem fnX {x q : Str} {st : Stmt} {f : Addr} {fd : FuncData} {N ps : List Str} {k : Nat} {sp : Sp} (F : C8.Fun K x q st f fd) (S : FnScope N ps (C8.fnScope st)) (len : ∀ vs H Q E, sp vs H Q E → vs.length = ps.length)
    (hb : ∀ (c : Value) (A : Around) (outer : List Env) (s : Shared) (H : Hp) (vs : List V) (Q : VK) (E : XK), Room k (A.deeper (envOfC q (C8.fnScope st) s.heap.objs.size f c)) → sp vs H Q E →
      ∃ t, PSs (cxOf (L2.CX P w) P w K mg base N q (C8.fnScope st) f c A outer s H E) (C8.fnBody st) t ∧ t { nx := fun _ h => Q .non h, rt := Q } (start N vs) H) : FnOk P w K mg base (L2.CX P w) (k + 1) f fd ps sp := by
  obtain ⟨oc, od, dV, kV, dc, pm, an, c, ct, sl, rfl, lk, hc⟩ := F.ex
  exact fn_of lk hc S len fun A outer s H vs Q E hr h => hb c A outer s H vs Q E hr h
theorem calX {x : Str} {st : Stmt} {f : Addr} {fd : FuncData} {N ps : List Str} {k : Nat} {sp : Sp} (F : C8.Def K mg x st f fd) (b : Binds K fd ps []) (S : FnScope N ps (C8.fnScope st)) (len : ∀ vs H Q E, sp vs H Q E → vs.length = ps.length)
    (hb : ∀ (c : Value) (A : Around) (outer : List Env) (s : Shared) (H : Hp) (vs : List V) (Q : VK) (E : XK), Room k (A.deeper (envOfC x (C8.fnScope st) s.heap.objs.size f c)) → sp vs H Q E →
      ∃ t, PSs (cxOf (L2.CX P w) P w K mg base N x (C8.fnScope st) f c A outer s H E) (C8.fnBody st) t ∧ t { nx := fun _ h => Q .non h, rt := Q } (start N vs) H) : CalX P w K mg base (k + 1) x sp :=
  ⟨f, fd, ps, fnX F.fn S len hb, F.mgf, F.kp, b⟩
theorem metX {m q : Str} {C : Addr} {st : Stmt} {f : Addr} {fd : FuncData} {N ps : List Str} {k : Nat} {sp : Sp} (c : Cls K C) (me : Meth K C m f) (F : C8.Fun K m q st f fd) (b : Binds K fd ps []) (S : FnScope N ps (C8.fnScope st)) (len : ∀ vs H Q E, sp vs H Q E → vs.length = ps.length)
    (hb : ∀ (c : Value) (A : Around) (outer : List Env) (s : Shared) (H : Hp) (vs : List V) (Q : VK) (E : XK), Room k (A.deeper (envOfC q (C8.fnScope st) s.heap.objs.size f c)) → sp vs H Q E →
      ∃ t, PSs (cxOf (L2.CX P w) P w K mg base N q (C8.fnScope st) f c A outer s H E) (C8.fnBody st) t ∧ t { nx := fun _ h => Q .non h, rt := Q } (start N vs) H) : MetX P w K mg base (k + 1) C m sp :=
  ⟨f, fd, ps, c, me, fnX F S len hb, b⟩
end
section
variable {X : Cx} {k j : Nat} {x m : Str} {C : Addr} {sp : Sp} {p pos apos : Pos} {e o : Expr} {es : List Expr} {t : TA} {ta : TE} {W : WX}
/-- such a def called where what it raises is wished for -/
theorem pe_cx (c : CalX X.prog X.w X.K X.mg X.base k x sp) (hr : Room j X.A) (hk : k ≤ j) (hg : Gl X x) (tk : Takes X W) (ha : PA X (e :: es) t)
    (hdb : (x == ("__debug__" : Str)) = false := by decide) (he : starEach (e :: es) X.env = (false, eval e X.env) :: starEach es X.env := by rfl) (hpl : (backTo pos (starEach es X.env)).any (·.1) = false := by rfl) :
    PE X (.Call (.Name x p) (e :: es) [] pos) (tCallS sp (WE W) t) := by
  obtain ⟨f, fd, ps, F, hm, kp, b⟩ := c.ex
  exact pe_callS F (hr.mono hk) hg hm kp b (fun σ => passAt tk σ) ha hdb he hpl
/-- .. called where it raises nothing -/
theorem pe_cx0 (c : CalX X.prog X.w X.K X.mg X.base k x sp) (hr : Room j X.A) (hk : k ≤ j) (hg : Gl X x) (ha : PA X (e :: es) t)
    (hdb : (x == ("__debug__" : Str)) = false := by decide) (he : starEach (e :: es) X.env = (false, eval e X.env) :: starEach es X.env := by rfl) (hpl : (backTo pos (starEach es X.env)).any (·.1) = false := by rfl) :
    PE X (.Call (.Name x p) (e :: es) [] pos) (tCall sp [] E0 t) := by
  obtain ⟨f, fd, ps, F, hm, kp, b⟩ := c.ex
  exact pe_call F (hr.mono hk) hg hm kp b .nil passL ha hdb he hpl
def tMx (C : Addr) (m : Str) (sp : Sp) (E : L2.St → XK) (ta : TE) (t : TA) : TE := fun σ H Q => ta σ H fun v H1 => ∃ a dx fs, v = .ref a ∧ H1 a = some (.ins C dx fs) ∧ fs.lookup m = none ∧ t σ H1 fun vs H2 => sp (v :: vs) H2 Q (E σ)
/-- o.m(e, ..) that may raise -/
theorem pe_mx {pl : Sem Bool} (c : MetX X.prog X.w X.K X.mg X.base k C m sp) (hr : Room j X.A) (hk : k ≤ j) (tk : Takes X W) (he : PE X o ta) (ha : PA X (e :: es) t)
    (hst : starEach (e :: es) X.env = (false, eval e X.env) :: starEach es X.env := by rfl) (hpl : (backTo pos (starEach es X.env)).any (·.1) = false := by rfl)
    (ht : eval (.Call (.Attribute o m apos) (e :: es) [] pos) X.env = (do
      let ov ← eval o X.env
      standAt apos.atName
      let (f, first) ← holding [ov] (getMethod ov m pl)
      callWith pos f first (backTo pos (starEach (e :: es) X.env)) (backToKw pos (keywordEach [] X.env))) := by rfl) :
    PE X (.Call (.Attribute o m apos) (e :: es) [] pos) (tMx C m sp (WE W) ta t) := by
  obtain ⟨f, fd, ps, hc, hm, F, b⟩ := c.ex
  refine ⟨fun pins s σ H Q I h => ?_⟩
  refine PySem.W.methodCall_KW (pl := pl) (thn (he.run pins s σ H _ I h) fun u s1 ⟨v, H1, I1, rx, a, dx, fs, ex, ea, l, q⟩ => ?_) ht
  subst ex
  obtain rfl : u = Value.ref a := rx
  refine getmeth_ok I1 ea hc hm l ?_
  refine PySem.W.callWith_K (first := [.ref a]) (h₀ := X.base) I.ok.mod.kin hm.kp (thn (ha.run pos pins s1 σ H1 _ I1 q) fun us s2 ⟨vs, H2, I2, r, q2⟩ => ⟨I2.kIn, ?_⟩) hst hpl
  exact run_fnS (us := .ref a :: us) (vs := .ref a :: vs) F (hr.mono hk) b (passAt tk σ) I2 (.cons rfl r) q2
/-- o.m() that may raise -/
theorem pe_mx0 {pl : Sem Bool} (c : MetX X.prog X.w X.K X.mg X.base k C m sp) (hr : Room j X.A) (hk : k ≤ j) (tk : Takes X W) (he : PE X o ta)
    (ht : eval (.Call (.Attribute o m apos) [] [] pos) X.env = (do
      let ov ← eval o X.env
      standAt apos.atName
      let (f, first) ← holding [ov] (getMethod ov m pl)
      callWith pos f first (backTo pos (starEach [] X.env)) (backToKw pos (keywordEach [] X.env))) := by rfl) :
    PE X (.Call (.Attribute o m apos) [] [] pos) (tMx C m sp (WE W) ta tNil) := by
  obtain ⟨f, fd, ps, hc, hm, F, b⟩ := c.ex
  refine ⟨fun pins s σ H Q I h => ?_⟩
  refine PySem.W.methodCall_KW (pl := pl) (thn (he.run pins s σ H _ I h) fun u s1 ⟨v, H1, I1, rx, a, dx, fs, ex, ea, l, q⟩ => ?_) ht
  subst ex
  obtain rfl : u = Value.ref a := rx
  refine getmeth_ok I1 ea hc hm l ?_
  exact PySem.W.callWith_K0 (first := [.ref a]) I1.kIn hm.kp (run_fnS (us := [.ref a]) (vs := [.ref a]) F (hr.mono hk) b (passAt tk σ) I1 (.cons rfl .nil) q)
end
/-! ### own exceptions raised -/
/-- __init__ of such: its arguments under these names, in a new dict -/
def sp_inx (C : Addr) (fs : List Str) : Sp := fun xs H Q _ => ∃ (a : Addr) (ys : List V), xs = .ref a :: ys ∧ ys.length = fs.length ∧ H a = some (exo a C none) ∧
  ∀ (d : Addr) (H2 : Hp), H d = none → d ≠ a → H2 a = some (exo a C (some d)) → H2 d = some (exd d (fs.zip ys).reverse) → (∀ b o, b ≠ a → H b = some o → H2 b = some o) → (∀ b, H2 b = none → H b = none) → Q .non H2
def tImp (ta : TA) : TA := fun σ H Q => ∃ Q0 : List V → Hp → Prop, ta σ H Q0 ∧ ∀ vs H1, Q0 vs H1 → Q vs H1
theorem pa_imp {X : Cx} {es : List Expr} {ta : TA} (ha : PA X es ta) : PA X es (tImp ta) := ⟨fun pos pins s σ H Q I ⟨Q0, h, i⟩ => thn (ha.run pos pins s σ H Q0 I h) fun us s1 ⟨vs, H1, I1, r, q⟩ => ⟨vs, H1, I1, r, i vs H1 q⟩⟩
structure Rc (K : PySem.W.Frag) (mg : Str → Option Value) (n : Str) (C : Addr) : Prop where
  g : mg n = some (.ref C)
  o : OexC K C
  x : XfC K C
structure Rk (P : Program) (w : World) (K : PySem.W.Frag) (mg : Str → Option Value) (base : Heap) (n : Str) (C : Addr) (fs : List Str) : Prop where
  rc : Rc K mg n C
  no : ∀ f ∈ fs, PySem.W.findIn K (.ref C) f = some none
  ini : ∃ (fI : Addr) (fd : FuncData) (ps : List Str), PySem.W.findIn K (.ref C) "__init__" = some (some (.ref fI)) ∧ PySem.W.typeIn K (.ref fI) = some (.type "function") ∧ FnOk P w K mg base C8.CX0 1 fI fd ps (sp_inx C fs) ∧ Binds K fd ps []
def tRx (C : Addr) (fs : List Str) (W : WX) (ta : TA) : TS := fun _ σ H => ta σ H fun vs H1 => vs.length = fs.length ∧ ∀ (d : Addr) (H2 : Hp), H1 d = none → H2 d = some (.xd (fs.zip vs).reverse) → Same H1 H2 → W (.ref C) (some d) σ H2
theorem ps_rx {X : Cx} {n : Str} {C : Addr} {fs : List Str} {j : Nat} {e : Expr} {es : List Expr} {ta : TA} {W : WX} {p pos pos2 : Pos} (E : Rk X.prog X.w X.K X.mg X.base n C fs) (hr : Room j X.A) (hj : 2 ≤ j) (hg : Gl X n) (hc : X.calm = true) (tk : Takes X W) (ha : PA X (e :: es) ta) (hf : fs.length < 100 := by decide)
    (hdb : (n == ("__debug__" : Str)) = false := by decide) (he : starEach (e :: es) X.env = (false, eval e X.env) :: starEach es X.env := by rfl) (hpl : (backTo pos (starEach es X.env)).any (·.1) = false := by rfl) :
    PS X (.Raise (some (.Call (.Name n p) (e :: es) [] pos)) none pos2) (tRx C fs W ta) := by
  obtain ⟨fI, fd, ps, i1, i2, F, b⟩ := E.ini
  refine ⟨fun pins s σ H D I h => (ps_raise hc tk (pmk_oex E.rc.o i1 i2 F (hr.mono hj) b .nil pass0 hg E.rc.g (pa_imp ha) hdb he hpl)).run pins s σ H D I ?_⟩
  refine ⟨_, h, fun vs H1 q => ?_⟩
  obtain ⟨hl, q⟩ := q
  refine ⟨by omega, fun a hn => ⟨a, vs ++ [], rfl, by rw [List.append_nil]; exact hl, upd_same, fun d H2 hd nd e1 e2 keep fr => ?_⟩⟩
  rw [List.append_nil] at e2
  rw [upd_ne nd] at hd
  refine ⟨rfl, d, (fs.zip vs).reverse, e1, e2, hd, q d _ hd upd_same fun b o z => ?_⟩
  have nb : b ≠ a := ne_of_none z hn
  rw [upd_ne (ne_of_none z hd), del_ne nb]
  exact keep b o nb (by rw [upd_ne nb]; exact z)
/-! ### try with several clauses that name the error alike -/
def wManyA (K : PySem.W.Frag) (i : Nat) (Wout : WX) (D : Ends) : List (Value × (Addr → Value → Option Addr → TS)) → WX
  | [] => Wout
  | (c, ts) :: r => fun cls d σ H => ∃ b, PySem.W.exmOne K cls c = some b ∧
      (b = true → ∀ a, H a = none → ts a cls d { nx := fun σ' H' => D.nx (σ'.set i none) H', rt := D.rt, bk := fun σ' H' => D.bk (σ'.set i none) H', ct := fun σ' H' => D.ct (σ'.set i none) H' } (σ.set i (some (.ref a))) H) ∧ (b = false → wManyA K i Wout D r cls d σ H)
inductive HdsA (X : Cx) (n : Str) : List ExceptHandler → List (Value × (Addr → Value → Option Addr → TS)) → Prop
  | nil : HdsA X n [] []
  | cons {x : Str} {c : Value} {ts : Addr → Value → Option Addr → TS} {b₀ : Stmt} {suite : List Stmt} {np pos' : Pos} {hds : List ExceptHandler} {l : List (Value × (Addr → Value → Option Addr → TS))} (hc : Names X x c)
      (hsu : ∀ (a : Addr) (oe : Obj) (cls : Value) (d : Option Addr) (pn : List (Addr × Obj)), Zc cls d oe → (∃ vs, oe.data = .fields vs) → PSs (X.suite a ((a, oe) :: pn)) (b₀ :: suite) (ts a cls d)) (r : HdsA X n hds l) :
      HdsA X n (.ExceptHandler (some (.Name x np)) (some n) (b₀ :: suite) pos' :: hds) ((c, ts) :: l)
theorem ps_try_ma {X : Cx} {n : Str} {i : Nat} {body : List Stmt} {h₀ : ExceptHandler} {hds : List ExceptHandler} {l : List (Value × (Addr → Value → Option Addr → TS))} {pos : Pos} {tb : WX → TS} {Wout : WX}
    (hs : X.stack = X.env :: X.outer) (hf : X.env.frame = some X.env.locals) (hN : X.N.Nodup) (hi : X.N[i]? = some n) (hln : X.env.kindOf n = some .local) (tk : Takes X Wout)
    (hb : ∀ (W : WX) (pn : List (Addr × Obj)) (xe : Value → Shared → Prop), Takes (X.tr pn xe) W → PassesOwn (model X.prog X.w) X.A X.env xe → PSs (X.tr pn xe) body (tb W))
    (hh : HdsA X n (h₀ :: hds) l) : PS X (.Try body (h₀ :: hds) [] [] pos) (fun D σ H => tb (wManyA X.K i Wout D l) D σ H) := by
  refine ⟨fun pins s σ H D I h => ?_⟩
  have ok := I.ok
  have hfr : X.A.frames = some (X.env :: X.outer) := by rw [ok.frames, hs]
  have hloc : Loc X.env.scope n := .inl hln
  refine wpAny_Try_except ?_
  refine wpAny_mono ((hb (wManyA X.K i Wout D l) (X.pn ++ pins) (fun e s₁ => wpAny (model X.prog X.w) X.A (noteFrame e X.env) (fun _ s₂ => wpAny (model X.prog X.w) X.A (setFlight e none) (fun _ s₃ =>
    wpAny (model X.prog X.w) X.A (handleBy e X.env (h₀ :: hds)) (SP X pins D) X.xe s₃) X.xe s₂) X.xe s₁) (fun u s' xx => ?_) PassesOwn.looking).run [] s σ H D (I.toTry _) h) (fun f s1 hsp => ?_) (fun e s1 he => he)
  · obtain ⟨a, B, sI, pins', σ', H', cls, d, rfl, J', nb, up, sky, na, os, ag, w⟩ := xx
    have J : Inv X pins σ' H' sI := J'.ofTry ok
    have sky' : Sky B (X.env :: X.outer) a (Zc cls d) X.env.locals s'.heap := by rw [← hs]; exact sky
    show wpAny (model X.prog X.w) X.A (noteFrame (.ref a) X.env) _ _ _
    refine Sky.land Zc.steady hfr hf sky' fun h3 fl3 up3 => ?_
    have J3 : Inv X pins σ' H' { s' with heap := h3 } := J.landed nb fl3.1 (up.trans up3) os ag
    obtain ⟨oe3, vs3, he3, hz3, hd3⟩ := fl3.there
    have notFr : ∀ {h : Heap} {o : Obj} {vs : Array Value}, h.FunFrames B (X.env :: X.outer) → h.get? a = some o → o.data = .fields vs → a ∉ frs (X.env :: X.outer) := fun {h o vs} ff e dd hm => by
      obtain ⟨_, o', e', hnf⟩ := ff.mem hm
      rw [e] at e'; cases e'
      exact hnf _ dd
    have nfr := notFr fl3.2.2.1 he3 hd3
    have nL : a ≠ X.env.locals := fun z => nfr (List.mem_filterMap.mpr ⟨X.env, List.mem_cons_self, by rw [hf, z]⟩)
    have nF : a ∉ X.fs := fun hm => by
      obtain ⟨e, he, q⟩ := List.mem_filterMap.mp hm
      exact nfr (List.mem_filterMap.mpr ⟨e, List.mem_cons_of_mem _ he, q⟩)
    have S3 := J3.suite he3 hd3 na nL nF
    have go : ∀ {hds' : List ExceptHandler} {l' : List (Value × (Addr → Value → Option Addr → TS))}, HdsA X n hds' l' → wManyA X.K i Wout D l' cls d σ' H' →
        wpAny (model X.prog X.w) X.A (handleBy (.ref a) X.env hds') (SP X pins D) X.xe { s' with heap := h3 } := by
      intro hds' l' hk
      induction hk with
      | nil =>
        intro w
        refine wpAny_handleBy_nil ?_
        obtain ⟨k1, k2, k3, oe, vs, T, oT, ts', he, hz, hd, h1, hr⟩ := id fl3
        unfold PySem.passOn
        refine wpAny_bind (wpAny_field he hd h1 ?_)
        rw [if_neg (show ¬ ((Value.ref T == Value.none) = true) from by simp)]
        have fin : wpAny (model X.prog X.w) X.A (setFlight (.ref a) X.env.frame) (fun _ s4 => wpAny (model X.prog X.w) X.A (throw (.ref a) : Sem Flow) (SP X pins D) X.xe s4) X.xe { s' with heap := h3 } := by
          rw [hf]
          refine HandSPX.setFlight_upZ fl3 fun h4 hh4 up4 => wpAny_throw (tk _ _ ?_)
          exact ⟨a, B, sI, pins, σ', H', cls, d, rfl, J, nb, (up.trans up3).trans up4, .inr (.inr (by rw [hs]; exact hh4)), na, os, ag, w⟩
        first
          | exact wpAny_bind (wpAny_pure (wpAny_bind fin))
          | exact wpAny_bind fin
      | @cons x c ts b₀ suite np pos' hds2 l2 hc hsu r ih =>
        intro w
        obtain ⟨b, hb1, hyes, hno⟩ := w
        refine wpAny_handleBy_cons (codeAny_handlers_test ?_) (by intro q; cases q)
        have LT : PySem.W.Looks (model X.prog X.w) h3 (typeOf (.ref a)) cls := fun A Q E s k q => wpAny_typeOf_ref (k _ _ he3) (by rw [hz3.1]; exact q)
        have LM := PySem.W.exm_one (M := model X.prog X.w) (J3.kIn) LT hb1
        have test : ∀ {Q : Value → Shared → Prop} {E : Value → Shared → Prop}, Q c { s' with heap := h3 } → wpAny (model X.prog X.w) (X.A.mark (some (.ref a))) (eval (.Name x np) X.env) Q E { s' with heap := h3 } := fun {Q E} q => by
          obtain ⟨hg, hdbg, hm | ⟨hm, hv, hnn⟩⟩ := hc
          · exact ld_glob (X := X.suite a ((a, oe3) :: (X.pn ++ pins))) S3 hg hm q hdbg
          · exact ld_blt (X := X.suite a ((a, oe3) :: (X.pn ++ pins))) S3 hg hm hv q hnn hdbg
        refine test (LM.here ?_)
        cases b with
        | true =>
          refine codeAny_handlers_suite_as ?_
          refine HandSPX.lands_againZ fl3 fun h4 fl4 up4 => ?_
          have J4 : Inv X pins σ' H' { s' with heap := h4 } := J.landed nb fl4.1 ((up.trans up3).trans up4) os ag
          obtain ⟨oe4, vs4, he4, hz4, hd4⟩ := fl4.there
          have S4 := J4.suite he4 hd4 na nL nF
          refine store_ok (X := X.suite a ((a, oe4) :: (X.pn ++ pins))) (v := .ref a) S4 hN hi hloc rfl (fun s5 S5 => ?_) (.inr hln)
          refine wpAny_mono ((hsu a oe4 cls d (X.pn ++ pins) hz4 ⟨_, hd4⟩).run [] s5 _ H' _ S5 (hyes rfl a na)) (fun f s6 hsp => ?_) (fun _ _ z => False.elim z)
          have end_ : ∀ {σ6 : L2.St} {H6 : Hp} {Q : Shared → Prop}, Inv (X.suite a ((a, oe4) :: (X.pn ++ pins))) [] σ6 H6 s6 → (∀ s7, Inv X pins (σ6.set i none) H6 s7 → Q s7) →
              wpAny (model X.prog X.w) X.A (do bindName X.env n .none; unbindBehindTheSuite X.env n pos') (fun _ s7 => Q s7) X.xe s6 := fun {σ6 H6 Q} S6 hq => gone_ok (S6.unsuite ok) hN hi hln hq
          cases f with
          | next =>
            obtain ⟨σ6, H6, S6, q6⟩ := hsp
            exact end_ S6 fun s7 J7 => ⟨_, _, J7, q6⟩
          | brk =>
            obtain ⟨σ6, H6, S6, q6⟩ := hsp
            exact end_ S6 fun s7 J7 => ⟨_, _, J7, q6⟩
          | cont =>
            obtain ⟨σ6, H6, S6, q6⟩ := hsp
            exact end_ S6 fun s7 J7 => ⟨_, _, J7, q6⟩
          | ret u =>
            obtain ⟨v6, σ6, H6, S6, r6, q6⟩ := hsp
            exact end_ S6 fun s7 J7 => ⟨_, _, _, J7, r6, q6⟩
        | false =>
          show wpAny _ X.A (handleBy (.ref a) X.env hds2) _ _ _
          exact ih (hno rfl)
    exact go hh w
  · cases f with
    | next =>
      obtain ⟨σ', H', J', q⟩ := hsp
      exact wpAny_execs_nil ⟨σ', H', J'.ofTry ok, q⟩
    | brk =>
      obtain ⟨σ', H', J', q⟩ := hsp
      exact ⟨σ', H', J'.ofTry ok, q⟩
    | cont =>
      obtain ⟨σ', H', J', q⟩ := hsp
      exact ⟨σ', H', J'.ofTry ok, q⟩
    | ret u =>
      obtain ⟨v, σ', H', J', r, q⟩ := hsp
      exact ⟨v, σ', H', J'.ofTry ok, r, q⟩
end Vf

set_option maxRecDepth 100000
set_option maxHeartbeats 4000000
namespace Vf
open PySem PySem.Spec PyProof.Rows L2 SX
/-! ### == and != by an own __eq__, either answer -/
structure OwnC (K : PySem.W.Frag) (C f : Addr) : Prop where
  cls : ∃ (nm q : Str) (N : Addr) (bs : List Value) (hdct : Bool) (sn : List Str) (sub : List Value) (ab : Bool) (col : Option Bool) (dd : Option Addr) (k0 k1 k2 k3 k5 : Option Value) (newId : String),
    K.lookup C = some (excClassObj nm q C N bs [.type "object"] hdct sn sub ab col dd k0 k1 k2 k3 k5 newId) ∧ PySem.W.nsOkIn K N = true ∧ PySem.W.nsIn K N "__eq__" = some (some (.ref f)) ∧ PySem.W.nsIn K N "__ne__" = some none
  hs : PySem.W.findIn K (.ref C) "__eq__" = some (some (.ref f))
  hf : PySem.W.isFn K (.ref f) = true
def spEqI (R : Addr → Addr → Bool → Hp → Prop) : Sp := fun vs H Q _ => ∃ a b r, vs = [.ref a, .ref b] ∧ R a b r H ∧ ∀ H', Same H H' → Q (.bl r) H'
def rEqI (C : Addr) (n : Bool) (R : Addr → Addr → Bool → Hp → Prop) : R2 := fun x y H Q => ∃ a b r dx dy fs gs, x = .ref a ∧ y = .ref b ∧ H a = some (.ins C dx fs) ∧ H b = some (.ins C dy gs) ∧ R a b r H ∧ ∀ H', Same H H' → Q (.bl (r != n)) H'
theorem ns_some {K : PySem.W.Frag} {h : Heap} {N : Addr} {m : Str → Option Value} {n : Str} {v : Value} (X : K.In h) (G : h.Ns N m) (e : PySem.W.nsIn K N n = some (some v)) : m n = some v := by
  obtain ⟨o, es, ep, ho, hd, _, hf⟩ := G
  unfold PySem.W.nsIn at e
  split at e
  · rename_i c d es' n' sl q
    have := X _ _ q
    rw [ho] at this
    cases this
    cases hd
    split at e
    · rename_i en he
      cases e
      rw [← hf]
      unfold nsFind findBy
      rw [← Array.find?_toList, he]
      rfl
    · split at e <;> cases e
  · cases e
section
variable {X : Cx} {C f : Addr} {fd : FuncData} {ps : List Str} {R : Addr → Addr → Bool → Hp → Prop} {k j : Nat}
theorem op_eqI (O : OwnC X.K C f) (F : FnOk X.prog X.w X.K X.mg X.base C8.CX0 k f fd ps (spEqI R)) (hb : Binds X.K fd ps []) (hr : Room j X.A) (hj : k ≤ j) : OpR X (compareOp .Eq) (rEqI C false R) := by
  intro pins s σ H x y v u Q I rx ry hq
  obtain ⟨a, b, r, dx, dy, fs, gs, rfl, rfl, ha, hb', hr', q⟩ := hq
  cases rx
  cases ry
  show wpAny (model X.prog X.w) X.A (richCompare .Eq (.ref a) (.ref b)) (EP X pins σ Q) X.xe s
  obtain ⟨mA, J, _⟩ := ins_get I.hok ha
  obtain ⟨mB, J', _⟩ := ins_get I.hok hb'
  obtain ⟨od, J, _⟩ := J.look
  obtain ⟨od', J', _⟩ := J'.look
  obtain ⟨m, hF⟩ := I.fr
  refine PySem.W.cmp_K (op := .Eq) (tb := .ref C) hr.units0 hF I.ok.mod.kin J J'.type (by simp [PySem.W.notFirst]) O.hs O.hf ?_
  refine thn (run_fn (us := [.ref a, .ref b]) (vs := [.ref a, .ref b]) (Q := fun v H' => v = .bl r ∧ Same H H') F (hr.mono hj) hb .nil pass0 I (.cons rfl (.cons rfl .nil)) ⟨a, b, r, rfl, hr', fun H' e => ⟨rfl, e⟩⟩) fun z s1 hz => ?_
  obtain ⟨v, H', I1, rv, e, sm⟩ := hz
  subst e
  obtain rfl : z = Value.bool r := rv
  refine ⟨.bl (r != false), H', I1, ?_, q H' sm⟩
  show Value.bool r = Value.bool (r != false)
  cases r <;> rfl
theorem op_neI (O : OwnC X.K C f) (F : FnOk X.prog X.w X.K X.mg X.base C8.CX0 k f fd ps (spEqI R)) (hb : Binds X.K fd ps []) (hr : Room j X.A) (hj : k + 1 ≤ j) : OpR X (compareOp .NotEq) (rEqI C true R) := by
  intro pins s σ H x y v u Q I rx ry hq
  obtain ⟨a, b, r, dx, dy, fs, gs, rfl, rfl, ha, hb', hr', q⟩ := hq
  cases rx
  cases ry
  obtain ⟨mA, J, _⟩ := ins_get I.hok ha
  obtain ⟨mB, J', _⟩ := ins_get I.hok hb'
  obtain ⟨nm, qn, N, bs, hdct, sn, sub, ab, col, dd, k0, k1, k2, k3, k5, newId, lC, nk, ne, nn⟩ := O.cls
  have KX := I.kIn
  have G : s.heap.Ns N (s.heap.nsMap N) := .of_isNs (PySem.W.isNs_of_in KX nk)
  have tf : PySem.W.typeIn X.K (.ref f) = some (.type "function") := beq_iff_eq.mp O.hf
  obtain ⟨of, lf, hcf⟩ := Option.map_eq_some_iff.mp (show (X.K.lookup f).map (·.cls) = some (.type "function") from tf)
  have W : s.heap.OwnEqNoNe a C f "object" [.type "object"] :=
    ⟨_, of, nm, qn, N, bs, hdct, sn, sub, ab, col, dd, k0, k1, k2, k3, k5, newId, _, _, J.obj, rfl, KX _ _ lC, G, ns_some KX G ne, KX _ _ lf, hcf, PySem.F.cmp_object.mro, PySem.F.cmp_object.eq.lookup, PySem.W.ns_none_of KX G nn⟩
  have e0 : Env0 X.prog X.w X.K X.mg X.base X.A.in1 X.stack s H := by
    have e := I.env0
    exact ⟨e.frames, e.mod, e.bs, e.bsz, e.funs, e.frf, e.hok, e.bare⟩
  have hsp : spEqI R [.ref a, .ref b] H (fun v H' => v = .bl r ∧ Same H H') (fun _ _ _ => False) := ⟨a, b, r, rfl, hr', fun H' e => ⟨rfl, e⟩⟩
  have hl := F.len _ _ _ _ hsp
  have hu : X.A.units + 1 < cLine := (hr.mono hj).in1.units0
  have run := F.run X.A.in1 X.stack s H ⟨[.ref a, .ref b], []⟩ [.ref a, .ref b] [.ref a, .ref b] _ (fun _ _ _ => False) ((hr.mono hj).in1) e0 (by
    have := hb s [.ref a, .ref b] KX (by simpa using hl)
    simpa using this) (.cons rfl (.cons rfl .nil)) hsp
  obtain ⟨hp, g, d, t, os⟩ := s
  refine compareOp_ne_ownEq (prog := X.prog) (w := X.w) PySem.F.cmp_object W J'.obj rfl hu (wpAny_call (codeAny_mono run fun z s' hz => ?_))
  cases z with
  | error e => exact pass0 pins σ H _ e s' I hz
  | ok fl =>
    cases fl with
    | ret w =>
      obtain ⟨v, H', I1, rv, ev, sm⟩ := I.after hz
      subst ev
      obtain rfl : w = Value.bool r := rv
      refine ⟨r, rfl, .bl (r != true), H', I1, ?_, q H' sm⟩
      show Value.bool (!r) = Value.bool (r != true)
      cases r <;> rfl
    | next => exact False.elim hz
    | brk => exact False.elim hz
    | cont => exact False.elim hz
/-- one of two rules for an operator -/
theorem op_alt {g : Value → Value → Sem Value} {r1 r2 : R2} (h1 : OpR X g r1) (h2 : OpR X g r2) : OpR X g (fun x y H Q => r1 x y H Q ∨ r2 x y H Q) := by
  intro pins s σ H x y v u Q I rx ry h
  rcases h with h | h
  · exact h1 pins s σ H x y v u Q I rx ry h
  · exact h2 pins s σ H x y v u Q I rx ry h
end
end Vf

set_option maxRecDepth 100000
set_option maxHeartbeats 4000000
namespace Vf
open PySem PySem.Spec PyProof.Rows L2 SX
/-! ### match over texts -/
structure MC (X : Cx) (cs : List MatchCase) (t : V → TS) : Prop where
  run : ∀ (first : Bool) (pins : List (Addr × Obj)) (s : Shared) (σ : L2.St) (H : Hp) (D : Ends) (x : V) (v : Value), Inv X pins σ H s → RelV x v → t x D σ H → wpAny (model X.prog X.w) X.A (matchCases cs X.env v first) (SP X pins D) X.xe s
section
variable {X : Cx}
theorem mc_nil : MC X [] (fun _ => tNext) := ⟨fun _ pins s σ H D x v I _ h => by
  rw [arm_matchCases_nil]
  exact wpAny_pure ⟨σ, H, I, h⟩⟩
def tMv (s : Str) (tb : TS) (tr : V → TS) : V → TS := fun x D σ H => ∃ y : Str, x = .str y ∧ if decide (y = s) = true then tb D σ H else tr x D σ H
theorem mc_val {s : Str} {j : Nat} {p1 p2 : Pos} {body : List Stmt} {rest : List MatchCase} {tb : TS} {tr : V → TS} (hb : PSs X body tb) (hr : MC X rest tr) :
    MC X (⟨.MatchValue (.Constant (.str s) j p1) p2, none, body⟩ :: rest) (tMv s tb tr) := by
  refine ⟨fun first pins sh σ H D x v I rx h => ?_⟩
  obtain ⟨y, rfl, h⟩ := h
  rw [arm_matchCases_cons]
  refine wpAny_bind (wpAny_holding ?_)
  rw [arm_matchPattern_MatchValue]
  refine wpAny_bind (thn (pe_str.run pins sh σ H (fun z H1 => z = .str s ∧ H1 = H) I ⟨rfl, rfl⟩) fun u s1 ⟨z, H1, I1, rz, e1, e2⟩ => ?_)
  subst e1
  subst e2
  refine wpAny_bind (wpAny_standAt ?_)
  refine wpAny_bind (thn (op_eq pins s1 σ H1 (.str y) (.str s) v u (fun z H2 => z = .bl (decide (y = s)) ∧ H2 = H1) I1 rx rz ⟨rfl, by rw [show decide (V.str y = V.str s) = decide (y = s) from decide_eq_decide.mpr ⟨fun z => V.str.inj z, fun z => by rw [z]⟩]; exact ⟨rfl, rfl⟩⟩) fun b s2 ⟨z, H2, I2, rb, e1, e2⟩ => ?_)
  subst e1
  subst e2
  obtain rfl : b = Value.bool (decide (y = s)) := rb
  refine wpAny_bind (wpAny_truthy_bool ?_)
  by_cases e : y = s
  · rw [decide_eq_true e] at h ⊢
    rw [if_pos rfl] at h ⊢
    refine wpAny_pure ?_
    refine wpAny_bind (wpAny_holding ?_)
    first
      | (show wpAny _ _ (assignInOrder [] []) _ _ _; unfold assignInOrder)
      | skip
    refine wpAny_pure ?_
    refine wpAny_bind (wpAny_pure ?_)
    show wpAny _ _ (execs body X.env) _ _ _
    exact hb.run pins s2 σ H2 D I2 h
  · rw [decide_eq_false e] at h ⊢
    rw [if_neg Bool.false_ne_true] at h ⊢
    refine wpAny_pure ?_
    exact hr.run false pins s2 σ H2 D _ v I2 rx h
/-- case _ -/
theorem mc_any {p : Pos} {body : List Stmt} {rest : List MatchCase} {tb : TS} (hb : PSs X body tb) : MC X (⟨.MatchAs none none p, none, body⟩ :: rest) (fun _ => tb) := by
  refine ⟨fun first pins sh σ H D x v I rx h => ?_⟩
  rw [arm_matchCases_cons]
  refine wpAny_bind (wpAny_holding ?_)
  rw [arm_matchPattern_MatchAs]
  refine wpAny_pure ?_
  refine wpAny_bind (wpAny_holding ?_)
  first
    | (show wpAny _ _ (assignInOrder [] []) _ _ _; unfold assignInOrder)
    | skip
  refine wpAny_pure ?_
  refine wpAny_bind (wpAny_pure ?_)
  show wpAny _ _ (execs body X.env) _ _ _
  exact hb.run pins sh σ H D I h
/-- a match statement -/
def tMatch (te : TE) (ts : V → TS) : TS := fun D σ H => te σ H fun x H1 => ts x D σ H1
theorem ps_match {e : Expr} {cs : List MatchCase} {pos : Pos} {te : TE} {ts : V → TS} (he : PE X e te) (hc : MC X cs ts) : PS X (.Match e cs pos) (tMatch te ts) := by
  refine ⟨fun pins s σ H D I h => ?_⟩
  rw [arm_exec_Match]
  refine wpAny_bind (wpAny_standAt ?_)
  refine wpAny_bind (thn (he.run pins s σ H _ I h) fun v s1 ⟨x, H1, I1, rx, q⟩ => ?_)
  exact hc.run true pins s1 σ H1 D x v I1 rx q
end
end Vf

set_option maxRecDepth 100000
set_option maxHeartbeats 4000000
namespace Vf
open PySem PySem.Spec PyProof.Rows L2 SX
/-! ### a def called at one known place of the stack (its guards are known there) -/
def noE : XK := fun _ _ _ => False
def RunAt (P : Program) (w : World) (K : PySem.W.Frag) (mg : Str → Option Value) (base : Heap) (A : Around) (f : Addr) (fd : FuncData) (ps : List Str) (sp : Sp) : Prop :=
  ∀ (out : List Env) (s : Shared) (H : Hp) (g : Args) (us : List Value) (vs : List V) (Q : VK), Env0 P w K mg base A out s H →
    BindsTo s fd g (ps.zip us) → Vals vs us → sp vs H Q noE → codeAny (model P w) A (.call (.ref f) g) (CR C8.CX0 out P w H s Q noE) s
section
variable {P : Program} {w : World} {K : PySem.W.Frag} {mg : Str → Option Value} {base : Heap}
theorem keeps_of {A : Around} {out : List Env} {s : Shared} {H : Hp} (e : Env0 P w K mg base A out s H) {b : Addr} {o : Obj} (h : base.get? b = some o) : s.heap.get? b = some o := (e.bs b o h).1
theorem runAt_of {q : Str} {st : Stmt} {f : Addr} {fd : FuncData} {N ps : List Str} {k : Nat} {A : Around} {sp : Sp} (F : C8.Fun K x q st f fd)
    (S : FnScope N ps (C8.fnScope st)) (len : ∀ vs H Q E, sp vs H Q E → vs.length = ps.length) (hr : Room (k + 1) A)
    (hb : ∀ (c : Value) (out : List Env) (s : Shared) (H : Hp) (vs : List V) (Q : VK), sp vs H Q noE →
      ∃ t, PSs (cxOf C8.CX0 P w K mg base N q (C8.fnScope st) f c A out s H noE).nox (C8.fnBody st) t ∧ t { nx := fun _ h => Q .non h, rt := Q } (start N vs) H) :
    RunAt P w K mg base A f fd ps sp := by
  obtain ⟨oc, od, dV, kV, dc, pm, an, c, ct, sl, rfl, lk, hc⟩ := F.ex
  intro out s H g us vs Q e0 hbind r hsp
  have hn := len _ _ _ _ hsp
  have KX : K.In s.heap := e0.mod.kin.keeps fun _ _ z => keeps_of e0 z
  have lim := e0.mod.nolimit.keeps (h' := s.heap) fun _ _ z => keeps_of e0 z
  refine codeAny_call_function hr.depth (KX _ _ lk) rfl S.co S.gen rfl (PySem.W.codeRec_of KX hc) (hbind _ _ _ _ ?_)
  refine wpAny_newFunctionEnv_cells S.kind (fun y hy => ?_) fun env he s1 x1 => ?_
  · rcases S.par y.1 (List.of_mem_zip hy).1 with z | z
    · exact Or.inl z
    · exact Or.inr ⟨z, PySem.W.cellsFrom_some _ _ _ (Or.inl z)⟩
  · subst he
    refine ⟨lim.keeps x1.toInCall.keep, codeAny_func ?_⟩
    obtain ⟨t, ht, hq⟩ := hb c out s H vs Q hsp
    refine wpAny_mono (ht.nox.run [] s1 (start N vs) H _ (inv_start S hr.hd e0 hn r x1) hq) (fun fl s' hs => ?_) (fun _ _ hs => hs)
    rcases fl with u | _ | _ | _
    all_goals first
      | exact (by obtain ⟨v, σ', H', J, rv, z⟩ := hs; exact ⟨v, H', J.os, J.bare, J.base, J.hok, rv, z⟩)
      | exact (by obtain ⟨σ', H', J, z⟩ := hs; exact ⟨V.non, H', J.os, J.bare, J.base, J.hok, rfl, z⟩)
      | exact (by obtain ⟨_, _, _, z⟩ := hs; exact z.elim)
end
/-- a tracked script list, or one of the written part -/
def scrH (a : Addr) (o : Obj) (xs : List V) : Hp := fun b => if b = a then some (.frz o (.lst xs)) else none
section
variable {P : Program} {w : World} {K : PySem.W.Frag} {mg mb : Str → Option Value} {fa a : Addr} {fd : FuncData} {x : Str} {sp : Sp} {s : Shared} {ws : List Value} {ns : List Int}
def LawEnd (s : Shared) (r : Result) (z : Shared) : Prop := r = .ok (.ret (.bool true)) ∧ OldK s.heap z.heap ∧ z.os = s.os ∧ AllBare z.gens
theorem law_core (KX : K.In s.heap) (hn : s.heap.Ns mainGlobals mg) (hb : s.heap.Ns builtinsNs mb) (hbb : ∀ y : Str, y ≠ "__name__" → mb y = bootBuiltins y) (hl : s.heap.NoLimit) (hg : s.gens = #[])
    (ha : s.heap.get? a = some { cls := .type "list", data := .seq ws.toArray }) (F : ∀ b : Heap, K.In b → b.Ns mainGlobals mg → RunAt P w K mg b callerA fa fd [x] sp)
    (bind : ∀ (z : Shared) (u : Value), BindsTo z fd ⟨[u], []⟩ [(x, u)]) (H : Hp) (hO : Only H) (hS : sp [.ref a] H (fun v _ => v = .bl true) noE) (ok : HOk P w H s.heap)
    (hA : ∀ b, H b ≠ none → b = a) (hK : H a ≠ none → K.lookup a = none) : codeAny (model P w) callerA (.call (.ref fa) ⟨[.ref a], []⟩) (LawEnd s) s := by
  have at_a : ∀ {b : Addr} {u : HO}, H b = some u → b = a := fun {b u} z => hA b fun n => nomatch n.symm.trans z
  have dictN : ∀ {b : Addr} {o : Obj} {es : Array DictEntry} {ep : Nat}, s.heap.get? b = some o → o.data = .dict es ep → H b = none := fun {b o es ep} e d =>
    match q : H b with
    | none => rfl
    | some u => by
      cases at_a q
      cases ha.symm.trans e
      exact nomatch d
  have nsN : ∀ {b : Addr} {m : Str → Option Value}, s.heap.Ns b m → (hidT s.heap H).Ns b m := fun {b m} n => by
    obtain ⟨o, es, ep, e, d, r⟩ := n
    exact ⟨o, es, ep, hidT_get e (dictN e d), d, r⟩
  have kin : K.In (hidT s.heap H) := fun b o e => hidT_get (KX b o e) (match q : H b with
    | none => rfl
    | some u => by
      cases at_a q
      cases (hK fun n => nomatch n.symm.trans q).symm.trans e)
  have lim : (hidT s.heap H).NoLimit := by
    obtain ⟨mc, l1, l2⟩ := hl
    exact ⟨mc, nsN l1, l2⟩
  have e0 : Env0 P w K mg (hidT s.heap H) callerA [] s H := ⟨rfl, ⟨kin, nsN hn, ⟨mb, nsN hb, hbb⟩, lim⟩, fun _ _ e => of_hidT e, Nat.le_of_eq (hidT_size _ _), trivial, fun b z => absurd (show b ∈ ([] : List Addr) from z) List.not_mem_nil, ok, .of_eq hg⟩
  refine codeAny_mono (F _ kin (nsN hn) [] s H ⟨[.ref a], []⟩ [.ref a] [.ref a] _ e0 (bind s (.ref a)) (.cons rfl .nil) hS) fun r z h => ?_
  match r, h with
  | .error e, h => exact (show False from h).elim
  | .ok .next, h => exact (show False from h).elim
  | .ok .brk, h => exact (show False from h).elim
  | .ok .cont, h => exact (show False from h).elim
  | .ok (.ret u), h =>
    obtain ⟨v, H', os, bare, un, ok', rv, rfl⟩ := h
    cases (show u = Value.bool true from rv)
    refine ⟨rfl, OldK.of_keep fun b o e => ?_, os, bare⟩
    match q : H b with
    | none => exact un.keep b o e q (fun m => absurd (show b ∈ ([] : List Addr) from m) List.not_mem_nil) List.not_mem_nil
    | some u =>
      rcases hO b with n | ⟨ob, xs, n⟩
      · exact nomatch n.symm.trans q
      · have g1 := (ok b _ n).1
        have g2 := (ok' b _ (un.frzs b ob _ n)).1
        cases e.symm.trans g1
        exact g2
theorem law_callG (KX : K.In s.heap) (hn : s.heap.Ns mainGlobals mg) (hb : s.heap.Ns builtinsNs mb) (hbb : ∀ y : Str, y ≠ "__name__" → mb y = bootBuiltins y) (hl : s.heap.NoLimit) (hg : s.gens = #[])
    (ha : s.heap.get? a = some { cls := .type "list", data := .seq ws.toArray }) (hi : IntsAre ws ns) (hz : ns.length ≤ sizeLine) (F : ∀ b : Heap, K.In b → b.Ns mainGlobals mg → RunAt P w K mg b callerA fa fd [x] sp)
    (bind : ∀ (z : Shared) (u : Value), BindsTo z fd ⟨[u], []⟩ [(x, u)]) (hS : ∀ H : Hp, Only H → SqL K H a (ns.map V.int) → sp [.ref a] H (fun v _ => v = .bl true) noE) :
    codeAny (model P w) callerA (.call (.ref fa) ⟨[.ref a], []⟩) (LawEnd s) s := by
  have rv := vals_ints hi
  match hk : K.lookup a with
  | some o =>
    cases ha.symm.trans (KX a o hk)
    have so : Only (fun _ => none) := fun _ => .inl rfl
    exact law_core KX hn hb hbb hl hg ha F bind _ so (hS _ so (.inr ⟨_, ws.toArray, _, hk, rfl, rfl, rfl, by rw [List.size_toArray, hi.length]; exact hz, by simpa using rv⟩)) (fun _ u z => nomatch (show (none : Option HO) = some u from z)) (fun _ z => absurd rfl z) (fun z => absurd rfl z)
  | none =>
    have e1 : scrH a { cls := .type "list", data := .seq ws.toArray } (ns.map V.int) a = some (.frz { cls := .type "list", data := .seq ws.toArray } (.lst (ns.map V.int))) := if_pos rfl
    have e2 : ∀ {b : Addr}, b ≠ a → scrH a { cls := .type "list", data := .seq ws.toArray } (ns.map V.int) b = none := fun n => if_neg n
    have so : Only (scrH a { cls := .type "list", data := .seq ws.toArray } (ns.map V.int)) := fun b => by
      by_cases z : b = a
      · subst z; exact .inr ⟨_, _, e1⟩
      · exact .inl (e2 z)
    refine law_core KX hn hb hbb hl hg ha F bind _ so (hS _ so (.inl (.inr ⟨_, e1⟩))) (fun b u z => ?_) (fun b z => ?_) fun _ => hk
    · by_cases y : b = a
      · subst y
        cases e1.symm.trans z
        exact ⟨ha, by rw [List.length_map]; exact hz, ws, _, rv, ha⟩
      · exact nomatch (e2 y).symm.trans z
    · by_cases y : b = a
      · exact y
      · exact absurd (e2 y) z
end
section
variable {l : PySem.W.OpenLaw} {n : Nat} {q : Program} {loose : List Str} {XP : (Str → Option Value) → Heap → Prop} {YP : World → Heap → Prop} {d : DefRec} {K : Params → PySem.W.Frag} {sp : PySem.W.Frag → Sp} {x : Str}
theorem walk_ofG (hn : l.most = some n) (hz : n ≤ sizeLine) (hd : d.params.defaults = []) (hY : ∀ (w : World) (h : Heap), YP w h → (K w.params).In h)
    (F : ∀ (w : World) (mg : Str → Option Value) (fa : Addr) (h : Heap), (K w.params).In h → h.Ns mainGlobals mg → mg d.name = some (.ref fa) →
      ∃ fd : FuncData, (∀ (z : Shared) (u : Value), BindsTo z fd ⟨[u], []⟩ [(x, u)]) ∧ ∀ b : Heap, (K w.params).In b → b.Ns mainGlobals mg → RunAt l.prog w (K w.params) mg b callerA fa fd [x] (sp (K w.params)))
    (hS : ∀ (K : PySem.W.Frag) (H : Hp) (a : Addr) (ns : List Int), ns.length ≤ n → Only H → SqL K H a (ns.map V.int) → sp K [.ref a] H (fun v _ => v = .bl true) noE) :
    PySem.W.WalkO q loose XP YP l.row.toRowW d [] (fun f vs => PySem.call f vs) := by
  refine Att.attach_call hn hd fun w s0 s1 mg mb fa o pm c dc a vs ns G Y ho ht hc hm hobj hi hlen hg => ?_
  have KX := hY w _ Y
  obtain ⟨fd, hb, hF⟩ := F w mg fa _ KX G.T.g hm
  exact law_callG KX G.T.g G.T.b G.T.builtins G.T.nolimit hg hobj hi (Nat.le_trans hlen hz) hF hb fun H hO hL => hS _ H a ns hlen hO hL
end
/-! ### repr of data -/
def rRepr (K : PySem.W.Frag) : List V → Hp → VK → Prop := fun xs H Q => ∃ (a : Addr) (d : PyData), xs = [.ref a] ∧ Dp K H (.ref a) d ∧ d.showable = true ∧ d.hasDict = false ∧ d.depth ≤ 40 ∧ d.shown.length ≤ sizeLine ∧ Q (.str d.shown) H
theorem call_reprD {X : Cx} (hg : X.A.guards = some []) (hu : X.A.units + 64 < cLine) : CallR X (.builtin "repr") (rRepr X.K) := by
  intro pins s σ H xs us Q I r h
  obtain ⟨a, d, rfl, hd, hs, hn, hp, hl, q⟩ := h
  cases r with
  | @cons _ u _ _ ra rt =>
    cases rt
    obtain rfl : u = Value.ref a := ra
    obtain ⟨as, rd⟩ := Dp.reads I d _ _ hd rfl
    exact repr_of_reads' rd hs (fun z => absurd (hn.symm.trans z) (by decide)) hg (by omega) (fun _ _ e => e) (fun h' u tk k => ⟨.str d.shown, H, I.kept k, ⟨_, rfl⟩, q⟩) hl
end Vf

set_option maxRecDepth 100000
set_option maxHeartbeats 4000000
namespace Vf
open PySem PySem.Spec PyProof.Rows L2 SX
/-! ### an own exception as a value: made, its fields read, its class asked -/
/-- __class__ of an own exception, with or without a dict of its own -/
theorem cls_of_exc {prog : Program} {w : World} {A : Around} {E : Value → Shared → Prop} {s : Shared} {K : PySem.W.Frag} {e C : Addr} {oe : Obj} {od : Option Obj} {Q : Option Value → Shared → Prop} (T : ExcC K C)
    (X : K.In s.heap) (I : PySem.W.InstAt s.heap e oe C od) (q : Q (some (.ref C)) { s with toks := s.toks + 1 }) : wpAny (model prog w) A (getAttr? (.ref e) "__class__") Q E s := by
  have fnd : PySem.W.findObj K C od "__class__" = some (.bind (.builtin "getset_descriptor.__get__") (.builtin "object.__class__")) := by
    obtain ⟨cd, hc, _⟩ := PySem.W.any_some T.hd
    unfold PySem.W.findObj
    simp [hc, T.ha, T.hn, T.ht]
  have own : (Value.builtin "BaseException.__getattribute__" == Value.builtin "object.__getattribute__") = false := by decide +kernel
  obtain ⟨h0, g0, d0, t0, o0⟩ := s
  have j0 := I.type (M := model prog w)
  have j1 := PySem.W.looks_findIn (M := model prog w) X T.hg
  have j2 := PySem.W.looks_findIn (M := model prog w) X T.hk
  have j3 := PySem.W.looks_find (M := model prog w) X I fnd
  have sb : PySem.W.Looks (model prog w) h0 (isInstance (.ref e) (.type "BaseException")) true := j0.andThen (PySem.W.looks_subIn X T.hs)
  unfold getAttr? getAttrBy? getAttrBy
  iterate 1 refine wpAny_bind (wpAny_mkText ?_)
  refine wpAny_bind (wpAny_attempt (wpAny_holding ?_))
  refine wpAny_bind (j0.at (wpAny_bind (j1.at ?_)))
  refine (show wpAny _ _ (if (onTheHeap (Value.ref C) && (Value.builtin "BaseException.__getattribute__" == Value.builtin "object.__getattribute__")) = true then _ else _) _ _ _ from ?_)
  rw [own, Bool.and_false, if_neg Bool.false_ne_true]
  unfold getAttrByItsOwn hookBefore
  refine wpAny_bind ?_
  have hon : onTheHeap (Value.ref C) = true := rfl
  rw [if_pos hon]
  refine j2.at (wpAny_bind (wpAny_attempt (wpAny_holding ?_)))
  unfold callGetattribute
  have hno : ¬ (false && onTheHeap (Value.builtin "BaseException.__getattribute__")) = true := Bool.false_ne_true
  rw [if_neg hno]
  unfold boundAndCalled
  rw [F.excAttr_ValueError.ga.bind (.ref e)]
  refine wpAny_bind (wpAny_pure ?_)
  refine (show wpAny _ _ (call (.builtin "BaseException.__getattribute__") [.ref e, .str "__class__" t0]) _ _ _ from ?_)
  refine (wpAny_call (codeAny_call_builtin F.excAttr_ValueError.ga.plain F.entry_bexc_ga ?_))
  refine @PySem.W.check_slot (model prog w) _ _ ⟨h0, g0, d0, t0 + 1, o0⟩ "BaseException.__getattribute__" "BaseException" "__getattribute__"
    (.ref e) [.str "__class__" t0] [] _ (by decide +kernel) (by decide +kernel) sb (F.args_bexc_ga (.ref e) (.str "__class__" t0)) ?_
  unfold Builtin.«object.__getattribute__»
  refine wpAny_bind (wpAny_of_eq (a := ((Value.ref e : Value), [Value.str "__class__" t0])) (by first | rfl | (simp only [slotArgs]; rfl)) ?_)
  refine wpAny_bind (wpAny_pure (wpAny_bind (j0.at (wpAny_bind (j3.at ?_)))))
  refine (show wpAny _ _ (holding [Value.builtin "object.__class__"] (call (.builtin "getset_descriptor.__get__") [.builtin "object.__class__", .ref e, .ref C]) >>= ret) _ _ _ from ?_)
  refine wpAny_bind (wpAny_holding (wpAny_call (PySem.W.class_get (s := ⟨h0, g0, d0, t0 + 1, o0⟩) X I T.hm ?_)))
  refine wpAny_pure ?_
  refine (show wpAny _ _ (handedOut (.ref C)) _ _ _ from ?_)
  rw [PySem.W.handedOut_of (v := .ref C) rfl]
  first
    | exact wpAny_pure (wpAny_pure q)
    | exact wpAny_pure q
theorem kitx_exo {K : PySem.W.Frag} {e C : Addr} {oe : Obj} {od : Option Obj} (T : ExcC K C) : PySem.W.KitX K (.ref e) (.ref C) (fun h => PySem.W.InstAt h e oe C od) := by
  have Z : PySem.W.KitX K (.ref e) (.ref C) (fun h => PySem.W.InstAt h e oe C none) := PySem.W.handS_kitx_exc T.hg T.hk T.hs T.hd T.ha T.hn T.ht T.hm
  obtain ⟨cd, hc, _⟩ := PySem.W.any_some T.hd
  exact { ty := fun _ _ _ I => I.type
          it := fun M h X I A Q E s k q => by
            unfold PySem.W.clsIn at hc
            split at hc
            · rename_i c1 d1 cd1 sl1 ho
              unfold isType loadHead
              exact wpAny_bind (wpAny_loadPart (k _ _ (X _ _ ho)) (wpAny_pure q))
            · cases hc
          ne := fun h tp dd its n sl X htp => Bool.eq_false_iff.mpr fun z => by
            have ez : C = tp := Value.ref.inj (beq_iff_eq.mp z)
            subst ez
            unfold PySem.W.clsIn at hc
            split at hc
            · rename_i c1 d1 cd1 sl1 ho
              exact nomatch (X _ _ ho).symm.trans htp
            · cases hc
          ca := fun X I k => cls_of_exc T X I k }
/-- an own exception of the class at C, with these fields, at a (n: none as yet) -/
def ExAt (H : Hp) (a C : Addr) (fs : List (Str × V)) : Prop := (fs = [] ∧ H a = some (exo a C none)) ∨ ∃ d, H a = some (exo a C (some d)) ∧ H d = some (exd d fs)
theorem inst_of {P : Program} {w : World} {H : Hp} {h : Heap} {a C : Addr} {fs : List (Str × V)} (ok : HOk P w H h) (e : ExAt H a C fs) : ∃ (oe : Obj) (od : Option Obj), PySem.W.InstAt h a oe C od := by
  rcases e with ⟨_, e⟩ | ⟨d, e1, e2⟩
  · obtain ⟨t, g⟩ := exo_at ok e
    exact ⟨_, none, ⟨g, rfl, rfl, trivial⟩⟩
  · obtain ⟨t, g⟩ := exo_at ok e1
    obtain ⟨mA, ⟨o, es, ep, g2, _⟩, _⟩ := exd_at ok e2
    exact ⟨_, some o, ⟨g, rfl, rfl, g2⟩⟩
def rIsX (K : PySem.W.Frag) : List V → Hp → VK → Prop := fun xs H Q => ∃ (a C : Addr) (fs : List (Str × V)) (c : V) (u : Value) (b : Bool), xs = [.ref a, c] ∧ ExAt H a C fs ∧ ExcC K C ∧ ClsV c u ∧ PySem.W.kitOne K (.ref C) u = some b ∧ Q (.bl b) H
theorem call_isX {X : Cx} : CallR X (.builtin "isinstance") (rIsX X.K) := by
  intro pins s σ H xs us Q I r h
  obtain ⟨a, C, fs, c, u, b, rfl, ex, T, k, e, q⟩ := h
  obtain ⟨u1, u2, rfl, r1, r2⟩ := vals2 r
  cases k.eq r2
  obtain rfl : u1 = Value.ref a := r1
  obtain ⟨oe, od, J⟩ := inst_of I.hok ex
  exact PySem.W.kia_one (kitx_exo T) I.kIn J e (fun z => nomatch z) fun tk => ⟨.bl b, H, I.tok tk, rfl, q⟩
/-- e.f of such an exception -/
def tXa (K : PySem.W.Frag) (f : Str) (te : TE) : TE := fun σ H Q => te σ H fun x H1 => ∃ (a C : Addr) (fs : List (Str × V)) (v : V), x = .ref a ∧ XfC K C ∧ PySem.W.findIn K (.ref C) f = some none ∧ ExAt H1 a C fs ∧ fs.lookup f = some v ∧ Q v H1
theorem pe_xa {X : Cx} {e : Expr} {te : TE} {pos : Pos} {f : Str} (he : PE X e te) (hb : attributeBase e f X.env (eval e X.env) = eval e X.env := by rfl) : PE X (.Attribute e f pos) (tXa X.K f te) := by
  refine ⟨fun pins s σ H Q I h => attr_of hb (thn (he.run pins s σ H _ I h) fun u s1 ⟨x, H1, I1, rx, a, C, fs, v, ex, T, hno, ea, l, q⟩ => ?_)⟩
  subst ex
  obtain rfl : u = Value.ref a := rx
  rcases ea with ⟨z, _⟩ | ⟨d, e1, e2⟩
  · subst z; cases l
  obtain ⟨t, g⟩ := exo_at I1.hok e1
  obtain ⟨mA, hns, hr⟩ := exd_at I1.hok e2
  obtain ⟨od, ho, hl⟩ := lookIn_ns hns
  obtain ⟨y, hy, ry⟩ := RelO.some_of (v := v) (o := mA f) (by rw [← l]; exact hr f)
  exact HandSPX.exc_get I1.kIn ⟨g, rfl, rfl, ho⟩ T.ga T.gg T.exC (PySem.W.findObj_own T.hdC hno rfl (by rw [hl, hy])) (handed_of ry) ⟨v, H1, I1.tok _, ry, q⟩
/-- C(e, ..), C's own __init__ keeping sp: the new exception stays -/
def tMkx (R : List V → Hp → VK → Prop) (ta : TA) : TE := fun σ H Q => ta σ H fun vs H1 => R vs H1 Q
theorem pe_mkx {X : Cx} {R : List V → Hp → VK → Prop} {x : Str} {C fI : Addr} {k : Nat} {fd : FuncData} {ps : List Str} {sp : Sp} {e : Expr} {es : List Expr} {ta : TA} {p pos : Pos} (T : OexC X.K C) (iC : PySem.W.findIn X.K (.ref C) "__init__" = some (some (.ref fI)))
    (tI : PySem.W.typeIn X.K (.ref fI) = some (.type "function")) (F1 : FnOk X.prog X.w X.K X.mg X.base C8.CX0 k fI fd ps sp) (hr : Room (k + 1) X.A) (hb : Binds X.K fd ps []) (hg : Gl X x) (hm : X.mg x = some (.ref C)) (ha : PA X (e :: es) ta)
    (hR : ∀ vs H1 Q, R vs H1 Q → vs.length ≤ 1000 ∧ ∀ a, H1 a = none → sp (.ref a :: vs) (upd H1 a (exo a C none)) (fun v H2 => v = .non ∧ Q (.ref a) H2) noE)
    (hdb : (x == ("__debug__" : Str)) = false := by decide) (he : starEach (e :: es) X.env = (false, eval e X.env) :: starEach es X.env := by rfl) (hpl : (backTo pos (starEach es X.env)).any (·.1) = false := by rfl) :
    PE X (.Call (.Name x p) (e :: es) [] pos) (tMkx R ta) := by
  refine ⟨fun pins s σ H Q I h => ?_⟩
  obtain ⟨nm, q, N, bs, bm, sn, sub, ab, col, dd, k0, k1, k2, k3, k5, hC, hbm⟩ := T.cls
  refine wpAny_Call_Name_kw (ld_glob I hg hm ?_ hdb)
  refine PySem.W.callWith_K (h₀ := X.base) I.ok.mod.kin T.kC (thn (ha.run pos pins s σ H _ I h) fun us s1 ⟨vs, H1, I1, r1, q0⟩ => ⟨I1.kIn, ?_⟩) he hpl
  obtain ⟨hz, q1⟩ := hR _ _ _ q0
  refine (show wpAny _ _ (call (.ref C) us) _ _ _ from ?_)
  obtain ⟨hp, g, dr, tk, os⟩ := s1
  have top : hp.objs.size ≤ hp.objs.size + 1 := Nat.le_succ _
  have hn : H1 (hp.objs.size + 1) = none := I1.hok.fresh top
  have grow : ∀ b o, hp.get? b = some o → ((hp.push (PySem.W.kdv_tup us)).push (PySem.HandSPX.excO C hp.objs.size)).get? b = some o := fun b o z => Heap.get?_push_of_some _ (Heap.get?_push_of_some _ z)
  have I2 := I1.laid (t' := tk) (a := hp.objs.size + 1) (o := exo (hp.objs.size + 1) C none) (h' := (hp.push (PySem.W.kdv_tup us)).push (PySem.HandSPX.excO C hp.objs.size)) grow top (exo_ok (t1 := hp.objs.size) (by heap_get))
  have r2 : Vals (V.ref (hp.objs.size + 1) :: vs) (Value.ref (hp.objs.size + 1) :: us) := .cons rfl r1
  have hq := q1 (hp.objs.size + 1) hn
  have hl : (Value.ref (hp.objs.size + 1) :: us).length = ps.length := r2.length.symm.trans (F1.len _ _ _ _ hq)
  have hus : us.length ≤ sizeLine := Nat.le_trans (Nat.le_of_eq (Paired.length r1).symm) (Nat.le_trans hz (by rw [sizeLine_eq]; decide))
  have bd := hb ⟨(hp.push (PySem.W.kdv_tup us)).push (PySem.HandSPX.excO C hp.objs.size), g, dr, tk, os⟩ (Value.ref (hp.objs.size + 1) :: us) I2.kIn (by rw [List.append_nil]; exact hl)
  rw [List.append_nil] at bd
  refine wpAny_call (PySem.HandSPX.call_own F.excBase_ValueError (fun Y => PySem.HandSPX.refsVE_contains Y bm hbm) (I1.kIn _ _ hC) (PySem.W.looks_findIn I1.kIn iC) (fun self => PySem.W.bind_fn I1.kIn self tI) hus ?_)
  refine codeAny_mono (F1.run _ X.stack _ _ ⟨Value.ref (hp.objs.size + 1) :: us, []⟩ (Value.ref (hp.objs.size + 1) :: us) _ _ noE (hr.make C us []) (I2.env0.make C us []) bd r2 hq) fun r s' z => ?_
  match r, z with
  | .error _, z => exact (show False from z).elim
  | .ok .next, z => exact (show False from z).elim
  | .ok .brk, z => exact (show False from z).elim
  | .ok .cont, z => exact (show False from z).elim
  | .ok (.ret u), z =>
    obtain ⟨v, H2, I3, rv, ev, q2⟩ := I2.after z
    subst ev
    exact ⟨rv, .ref (hp.objs.size + 1), H2, I3, rfl, q2⟩
/-- C(), a class without own __init__ -/
theorem pe_mkx0 {X : Cx} {C : Addr} {x : Str} {p pos : Pos} (T : OexC X.K C) (q : PySem.W.excIn X.K C [.type "ValueError", .type "Exception", .type "BaseException", .type "object"] "ValueError.__new__" = true) (gC : X.mg x = some (.ref C)) (hg : Gl X x)
    (hdb : (x == ("__debug__" : Str)) = false := by decide) : PE X (.Call (.Name x p) [] [] pos) (fun σ H Q => ∀ a, H a = none → Q (.ref a) (upd H a (exo a C none))) := by
  refine ⟨fun pins s σ H Q I h => ?_⟩
  refine wpAny_Call_Name_kw (ld_glob I hg gC ?_ hdb)
  refine PySem.W.callWith_K0 I.kIn T.kC ?_
  obtain ⟨bm, N, nm, qn, bs, hdct, sn, sub, ab, col, dd, k0, k1, k2, k3, k5, mN, hC, hN, hni, OT⟩ := exc_obj I.kIn q
  refine wpAny_call_exc_subT F.excBase_ValueError OT hC hN hni (fun h' a hm => ?_) (Nat.zero_le _)
  have hn : H a = none := I.hok.gone hm.new
  obtain ⟨t, ht, _, _⟩ := hm.there
  exact ⟨.ref a, upd H a (exo a C none), I.laidN hm.keeps hm.new hn (exo_ok ht), rfl, h a hn⟩
end Vf

set_option maxRecDepth 100000
set_option maxHeartbeats 4000000
namespace Vf
open PySem PySem.Spec PyProof.Rows L2 SX LamX
/-! ### a def whose code object is told; lambdas handed on -/
structure FunC (K : PySem.W.Frag) (mg : Str → Option Value) (x : Str) (st : Stmt) (f : Addr) (fd : FuncData) (c : Addr) : Prop where
  ex : ∃ (oc : Value) (od : Option Addr) (dV kV doc pm : Value) (an : Option Addr) (ct : Value) (osl : Array (Option Value)),
    fd = PySem.W.fnOf x x (C8.fnArgs st) (C8.fnBody st) (C8.fnScope st) dV kV doc pm an (.ref c) ct ∧ K.lookup f = some ⟨oc, od, .func fd, osl⟩ ∧ PySem.W.codeIn K (.ref c) x = true
  mgf : mg x = some (.ref f)
  kp : PySem.W.keepIn K (.ref f) = true
section
variable {P : Program} {w : World} {K : PySem.W.Frag} {mg : Str → Option Value} {base : Heap}
theorem cal0c {x : Str} {st : Stmt} {f c : Addr} {fd : FuncData} {N ps : List Str} {k : Nat} {sp : Sp} (F : FunC K mg x st f fd c) (b : Binds K fd ps []) (S : FnScope N ps (C8.fnScope st)) (len : ∀ vs H Q E, sp vs H Q E → vs.length = ps.length)
    (hb : ∀ (A : Around) (outer : List Env) (s : Shared) (H : Hp) (vs : List V) (Q : VK) (E : XK), Room k (A.deeper (envOfC x (C8.fnScope st) s.heap.objs.size f (.ref c))) → sp vs H Q E →
      ∃ t, PSs (cxOf C8.CX0 P w K mg base N x (C8.fnScope st) f (.ref c) A outer s H E).nox (C8.fnBody st) t ∧ t { nx := fun _ h => Q .non h, rt := Q } (L2.start N vs) H) : C8.Cal P w K mg base (k + 1) x sp [] := by
  obtain ⟨oc, od, dV, kV, dc, pm, an, ct, sl, rfl, lk, hc⟩ := F.ex
  refine ⟨f, _, ps, [], fn_of lk hc S len fun A outer s H vs Q E hr h => ?_, F.mgf, F.kp, b, .nil⟩
  obtain ⟨t, h1, q⟩ := hb A outer s H vs Q E hr h
  exact ⟨t, h1.nox, q⟩
end
/-! ### repr of scalars -/
def reprV : V → Str
  | .non => "None"
  | .bl b => if b then "True" else "False"
  | .int i => toString i
  | .str x => reprText x
  | _ => ""
def ScR (v : V) : Prop := v = .non ∨ (∃ b, v = .bl b) ∨ (∃ i : Int, v = .int i ∧ i.natAbs.log2 < 1920) ∨ ∃ x : Str, v = .str x ∧ (reprText x).length ≤ sizeLine
theorem call_reprS {X : Cx} : CallR X (.builtin "repr") (fun xs H Q => ∃ v, xs = [v] ∧ ScR v ∧ Q (.str (reprV v)) H) := by
  intro pins s σ H xs us Q I r h
  obtain ⟨v, rfl, hv, q⟩ := h
  rcases hv with rfl | ⟨b, rfl⟩ | ⟨i, rfl, hz⟩ | ⟨x, rfl, hz⟩
  · obtain ⟨u, rfl, ru⟩ := vals1 r
    cases ru
    exact PySem.P.repr_of_none ⟨.str _, H, I.tok _, ⟨_, rfl⟩, q⟩
  · obtain ⟨u, rfl, ru⟩ := vals1 r
    cases ru
    exact PySem.P.repr_of_bool ⟨.str _, H, I.tok _, ⟨_, rfl⟩, q⟩
  · obtain ⟨u, rfl, t, rfl⟩ := vals1 r
    exact PySem.P.repr_of_int hz ⟨.str _, H, I.tok _, ⟨_, rfl⟩, q⟩
  · obtain ⟨u, rfl, t, rfl⟩ := vals1 r
    exact PySem.P.repr_of_str ⟨.str _, H, I.tok _, ⟨_, rfl⟩, q⟩ hz
/-! ### isinstance of a caught error that has a dict of its own -/
def rIsE2 (K : PySem.W.Frag) (cls : Value) (d : Option Addr) (a : Addr) : List V → Hp → VK → Prop := fun xs H Q => ∃ (D dd : Addr) (fs : List (Str × V)) (c : V) (cv : Value) (b : Bool), cls = .ref D ∧ d = some dd ∧ H dd = some (.xd fs) ∧ xs = [.ref a, c] ∧ ExcC K D ∧ (∀ u, RelV c u → u = cv) ∧ PySem.W.kitOne K (.ref D) cv = some b ∧ Q (.bl b) H
theorem call_isE2 {X : Cx} {a : Addr} {cls : Value} {d : Option Addr} {oe : Obj} {pn : List (Addr × Obj)} (hz : Zc cls d oe) (hf : ∃ vs, oe.data = .fields vs) : CallR (X.suite a ((a, oe) :: pn)) (.builtin "isinstance") (rIsE2 X.K cls d a) := by
  intro pins s σ H xs us Q I r h
  obtain ⟨D, dd, fs, c, cv, b, rfl, rfl, hd, rfl, C, hcv, e, q⟩ := h
  obtain ⟨u1, u2, rfl, r1, r2⟩ := vals2 r
  have ec := hcv _ r2
  subst ec
  obtain rfl : u1 = Value.ref a := r1
  obtain ⟨hget, _⟩ := I.pin (a, oe) (List.mem_append.mpr (.inl List.mem_cons_self))
  obtain ⟨vs, hv⟩ := hf
  have hx : ObjOk X.prog X.w H s.heap dd (.xd fs) := I.hok dd _ hd
  obtain ⟨mA, hns, _⟩ := hx
  obtain ⟨od, ho, _⟩ := lookIn_ns hns
  have J : PySem.W.InstAt s.heap a oe D (some od) := ⟨hget, hz.1, by unfold PySem.W.notCls; rw [hv] <;> rfl, by rw [hz.2]; exact ho⟩
  exact PySem.W.kia_one (kitx_exo C) I.kIn J e (fun z => nomatch z) fun tk => ⟨.bl b, H, I.tok tk, rfl, q⟩
theorem pe_fldK {X : Cx} {K : PySem.W.Frag} {e : Expr} {f : Str} {pos : Pos} {ta : TE} (hK : X.K = K) (he : PE X e ta) (hb : attributeBase e f X.env (eval e X.env) = eval e X.env) : PE X (.Attribute e f pos) (tFld K ta f) := by
  subst hK
  exact pe_fld he hb
def tKIx (K : PySem.W.Frag) (w : World) (td ty : TE) : TE := fun σ H Q => td σ H fun x H1 => ∃ d f, x = .ref d ∧ KD K w d f ∧ ty σ H1 fun y H2 => ∃ k v, y = .str k ∧ f k = some v ∧ Q v H2
/-- d[k], d a dict of the written part -/
theorem pe_kix {X : Cx} {o i : Expr} {pos : Pos} {td ty : TE} {K : PySem.W.Frag} {w : World} (hK : X.K = K) (hw : X.w = w) (ho : PE X o td) (hi : PE X i ty) (hs : NoSl i) : PE X (.Subscript o i pos) (tKIx K w td ty) := by
  subst hK hw
  refine ⟨fun pins s σ H Q I h => ?_⟩
  refine subD_of PySem.F.slot_dict_getitem.lookup hs (thn (ho.run pins s σ H _ I h) fun u s1 ⟨x, H1, I1, rx, d, g, ex, ⟨es, n, hl, hk, low, hg⟩, q1⟩ => thn (hi.run pins s1 σ H1 _ I1 q1) fun iv s2 ⟨y, H2, I2, ry, k, v, ey, ev, q2⟩ => ?_)
  subst ex
  subst ey
  obtain rfl : u = Value.ref d := rx
  obtain ⟨t, rfl⟩ := ry
  have hm := PySem.W.mapOf_K (prog := X.prog) (w := X.w) I2.kIn hl hk
  obtain ⟨z, hz, rz⟩ := RelO.some_of (v := v) (o := findBy Value.isStrOf es k) (by rw [← ev]; exact hg k)
  exact ⟨hm.typeIs, wpAny_getItem_of (strKind_is X.prog X.w k t) hm hz ⟨v, H2, I2.tok _, rz, q2⟩⟩
theorem pe_cls {X : Cx} {n : Str} {C : Addr} {p : Pos} (g : X.mg n = some (.ref C)) (hg : Gl X n) (hd : (n == ("__debug__" : Str)) = false := by decide) : PE X (.Name n p) (tC (.ref C)) := C8.pe_gc hg ⟨_, g, rfl⟩ hd
/-- what the two error classes say of one another -/
structure XF (K : PySem.W.Frag) (CB CN CW : Addr) : Prop where
  bb : PySem.W.exmOne K (.ref CB) (.ref CB) = some true
  nb : PySem.W.exmOne K (.ref CN) (.ref CB) = some false
  nn : PySem.W.exmOne K (.ref CN) (.ref CN) = some true
  bn : PySem.W.exmOne K (.ref CB) (.ref CN) = some false
  kb : PySem.W.kitOne K (.ref CB) (.ref CW) = some true
  kn : PySem.W.kitOne K (.ref CN) (.ref CW) = some true
  eb : ExcC K CB
  en : ExcC K CN
end Vf

set_option maxRecDepth 100000
set_option maxHeartbeats 4000000
namespace Vf
open PySem PySem.Spec PyProof.Rows L2 SX LamX
/-! ### sorted(xs, key=lambda x: ..) -/
theorem clo_none {cells : List (Str × Addr)} : ∀ {names : List (Str × NameKind)} {acc : List (Str × Addr)}, (∀ y ∈ names, y.2 ≠ .free) → cloFrom cells names acc = acc
  | [], _, _ => rfl
  | (n, k) :: r, acc, h => by
    unfold cloFrom
    have hk : (k == NameKind.free) = false := by
      have := h (n, k) (.head _)
      simpa using this
    rw [if_neg (by rw [hk]; simp)]
    exact clo_none fun y hy => h y (.tail _ hy)
section
variable {X : Cx} {pins : List (Addr × Obj)} {σ : L2.St} {H : Hp} {s : Shared}
theorem key_run {k : Nat} {A' : Around} {x q : Str} {N : List Str} {scope : Scope} {params : Arguments} {body : Expr} {f c' : Addr} {pm ctv v : Value} {y : V} {tb : TE} {Q : VK} (I : Inv X pins σ H s) (S : FnScope N [x] scope)
    (hf : s.heap.get? f = some (PySem.W.kla_obj "<lambda>" q params body scope [] pm c' ctv)) (hb : bindArgs (PySem.W.kla_fn "<lambda>" q params body scope [] pm (.ref c') ctv) ⟨[v], []⟩ = pure [(x, v)])
    (hr : Room (k + 1) A') (e0 : Env0 X.prog X.w X.K X.mg X.base A' X.stack s H) (hc : H c' = some (CodeO c' q)) (r : RelV y v)
    (hbody : ∀ (A : Around) (outer : List Env) (s : Shared) (H : Hp), Room k (A.deeper (envOfC q scope s.heap.objs.size f (.ref c'))) → PE (cxOf C8.CX0 X.prog X.w X.K X.mg X.base N q scope f (.ref c') A outer s H C8.E0) body tb)
    (ht : tb (L2.start N [y]) H Q) :
    codeAny (model X.prog X.w) A' (.call (.ref f) ⟨[v], []⟩) (CR C8.CX0 X.stack X.prog X.w H s Q C8.E0) s := by
  obtain ⟨⟨oc, vs, t, hoc, hdc, hvc⟩, _, _⟩ := I.hok c' _ hc
  have lim : s.heap.NoLimit := e0.mod.nolimit.keeps fun b o e => (e0.bs b o e).1
  have hkind : ∀ y ∈ [(x, v)], scope.names.lookup y.1 = some .local ∨ (scope.names.lookup y.1 = some .cell ∧ ((cellsFrom (s.heap.objs.size + 1) scope.names []).lookup y.1).isSome = true) := fun y hy => by
    rw [List.mem_singleton.mp hy]
    rcases S.par x (.head _) with q | q
    · exact .inl q
    · exact .inr ⟨q, PySem.W.cellsFrom_some _ _ _ (.inl q)⟩
  refine PySem.W.kla_callFunE hr.depth hf rfl S.co S.gen rfl ⟨c', oc, vs, t, rfl, hoc, hdc, hvc⟩ ?_
  rw [hb]
  refine wpAny_pure ?_
  refine wpAny_newFunctionEnv_cells S.kind hkind fun env he s1 xx => ?_
  subst he
  refine ⟨lim.keeps xx.toInCall.keep, ?_⟩
  show codeAny _ _ (.expr body (envOfC q scope s.heap.objs.size f (.ref c'))) _ _
  have J : Inv (cxOf C8.CX0 X.prog X.w X.K X.mg X.base N q scope f (.ref c') A' X.stack s H C8.E0) [] (L2.start N [y]) H s1 := inv_start (ps := [x]) (us := [v]) S hr.hd e0 rfl (.cons r .nil) xx
  refine PySem.W.kla_codeExpr (wpAny_mono ((hbody _ _ s H (hr.deeper _)).run [] s1 (L2.start N [y]) H Q J ht) (fun v s' hq => ?_) fun e s' hq => hq)
  obtain ⟨w', H', J', rv, q⟩ := hq
  exact ⟨w', H', J'.os, J'.bare, J'.base, J'.hok, rv, q⟩
/-- what a key's call does: a number, nothing else -/
def KEnd (X : Cx) (pins : List (Addr × Obj)) (σ : L2.St) (H : Hp) (k : Int) (u : Value) (s' : Shared) : Prop := ∃ t, u = .int k t ∧ Inv X pins σ H s'
theorem key_call {k : Nat} {A' : Around} {x q : Str} {N : List Str} {scope : Scope} {params : Arguments} {body : Expr} {f c' : Addr} {pm ctv v : Value} {y : V} {tb : TE} {z : Int} (I : Inv X pins σ H s) (S : FnScope N [x] scope)
    (hf : s.heap.get? f = some (PySem.W.kla_obj "<lambda>" q params body scope [] pm c' ctv)) (hb : bindArgs (PySem.W.kla_fn "<lambda>" q params body scope [] pm (.ref c') ctv) ⟨[v], []⟩ = pure [(x, v)])
    (hr : Room (k + 1) A') (e0 : Env0 X.prog X.w X.K X.mg X.base A' X.stack s H) (hc : H c' = some (CodeO c' q)) (r : RelV y v)
    (hbody : ∀ (A : Around) (outer : List Env) (s : Shared) (H : Hp), Room k (A.deeper (envOfC q scope s.heap.objs.size f (.ref c'))) → PE (cxOf C8.CX0 X.prog X.w X.K X.mg X.base N q scope f (.ref c') A outer s H C8.E0) body tb)
    (ht : tb (L2.start N [y]) H fun v' H' => v' = .int z ∧ H' = H) :
    wpAny (model X.prog X.w) A' (call (.ref f) [v]) (KEnd X pins σ H z) (fun _ _ => False) s := by
  refine wpAny_call (codeAny_mono (key_run I S hf hb hr e0 hc r hbody ht) fun rr s2 hq => ?_)
  cases rr with
  | error e => exact (show False from hq).elim
  | ok fl =>
    cases fl with
    | ret u =>
      obtain ⟨v', H', I', rv, rfl, rfl⟩ := I.after hq
      obtain ⟨t, rfl⟩ := rv
      exact ⟨t, rfl, I'⟩
    | next => exact False.elim hq
    | brk => exact False.elim hq
    | cont => exact False.elim hq
variable {A : Around} {E : Value → Shared → Prop} {a kS : Addr} {b : Bool} {vs : List Value} {kz : List Int} {keys : Array Value} {e e1 : Nat} {P : PySem.Fin → Shared → Prop}
theorem sk_tail {st : SortSt} (I : Inv X pins σ H s) (fa : FpOk X pins H a) (fk : FpOk X pins H kS) (hoa : s.heap.get? a = some (seqObj "list" #[] e1)) (hok : s.heap.get? kS = some (seqObj "list" keys e)) (hka : kS ≠ a)
    (hk : IntsAre keys.toList kz) (hlen : kz.length = vs.length) (h64 : vs.length < 64) (hp : (arrOf st).Perm (keys.zip vs.toArray)) (hs : SortedTo (arrOf st) (arrOf st).size) (hfl : failedOf st = none)
    (h : ∀ h' tk out c, Inv X pins σ H { s with heap := h', toks := tk } → h'.get? a = some (seqObj "list" out c) → KskOut b kz vs out.toList → P (.done (.ret .none)) { s with heap := h', toks := tk }) :
    wpAny (model X.prog X.w) A (ksk_tail a b e1 (.ref kS) st) P E s := by
  have hsz : keys.size = vs.length := by
    have h1 := hk.length
    rw [Array.length_toList] at h1
    omega
  have hsz2 : (arrOf st).size = vs.length := by rw [hp.size_eq, Array.size_zip, hsz, List.size_toArray, Nat.min_self]
  have hout : (if b then ((arrOf st).map (·.2)).reverse else (arrOf st).map (·.2)).size = vs.length := by
    cases b with
    | false => simp only [Bool.false_eq_true, if_false, Array.size_map]; exact hsz2
    | true => simp only [if_true, Array.size_reverse, Array.size_map]; exact hsz2
  have s1 := Heap.SameBut.update s.heap kS (Obj.mapSeq fun _ => (#[] : Array Value))
  have na1 : (s.heap.update kS (Obj.mapSeq fun _ => (#[] : Array Value))).get? a = some (seqObj "list" #[] e1) := (s1.2 a hka.symm).trans hoa
  have s2 := Heap.SameBut.update (s.heap.update kS (Obj.mapSeq fun _ => (#[] : Array Value))) a (Obj.mapSeq fun _ => if b then ((arrOf st).map (·.2)).reverse else (arrOf st).map (·.2))
  obtain ⟨c2, hc2⟩ : ∃ c2, ((s.heap.update kS (Obj.mapSeq fun _ => (#[] : Array Value))).update a (Obj.mapSeq fun _ => if b then ((arrOf st).map (·.2)).reverse else (arrOf st).map (·.2))).get? a = some (seqObj "list" (if b then ((arrOf st).map (·.2)).reverse else (arrOf st).map (·.2)) c2) :=
    ⟨_, get?_update_seq na1 fun _ => if b then ((arrOf st).map (·.2)).reverse else (arrOf st).map (·.2)⟩
  unfold ksk_tail
  try dsimp only
  refine wpAny_bind (listUpdate_at hok rfl ?_ (by rw [hsz, sizeLine_eq]; omega) (Nat.zero_le _))
  refine wpAny_bind (wpAny_letGo ?_)
  refine wpAny_bind (seqEpoch_at na1 rfl ?_)
  refine wpAny_bind (listUpdate_at na1 rfl ?_ (Nat.zero_le _) (Nat.le_trans (Nat.le_of_eq hout) (by rw [sizeLine_eq]; omega)))
  rw [hfl]
  simp only [bne_self_eq_false, Bool.false_eq_true, if_false]
  refine wpAny_pure (h _ _ _ c2 (I.turnedL (ch := [a, kS]) (fun d o hd e => ?_) fun d hd => ?_) hc2 (ksk_out hk hp hs))
  · have n1 : d ≠ a := fun z => hd (by simp [z])
    have n2 : d ≠ kS := fun z => hd (by simp [z])
    exact (s2.2 d n1).trans ((s1.2 d n2).trans e)
  · rcases List.mem_cons.mp hd with rfl | hd
    · exact fa
    · rw [List.mem_singleton.mp hd]; exact fk
theorem sk_end (I : Inv X pins σ H s) (fa : FpOk X pins H a) (fk : FpOk X pins H kS) (hoa : s.heap.get? a = some (seqObj "list" #[] e1)) (hok : s.heap.get? kS = some (seqObj "list" keys e)) (hka : kS ≠ a)
    (hk : IntsAre keys.toList kz) (hlen : kz.length = vs.length) (h64 : vs.length < 64)
    (h : ∀ h' tk out c, Inv X pins σ H { s with heap := h', toks := tk } → h'.get? a = some (seqObj "list" out c) → KskOut b kz vs out.toList → P (.done (.ret .none)) { s with heap := h', toks := tk }) :
    wpAny (model X.prog X.w) A (ksk_end a b vs.toArray e1 (.ref kS) keys) P E s := by
  have hsz : keys.size = vs.length := by
    have h1 := hk.length
    rw [Array.length_toList] at h1
    omega
  have hzs : (keys.zip vs.toArray).size = vs.length := by rw [Array.size_zip, hsz, List.size_toArray, Nat.min_self]
  have step : ∀ t : Sem PySem.Fin, wpAny (model X.prog X.w) A t P E s → wpAny (model X.prog X.w) A (if b = true then (do let _ ← rule "list.sort.reverse"; t) else t) P E s := by
    intro t ht
    split
    · exact wpAny_bind (wpAny_rule ht)
    · exact ht
  have hstart : (if b = true then (keys.zip vs.toArray).reverse else keys.zip vs.toArray).Perm (keys.zip vs.toArray) := by
    cases b with
    | false => exact Array.Perm.refl _
    | true => exact Array.perm_iff_toList_perm.mpr (by rw [if_pos rfl, Array.toList_reverse]; exact List.reverse_perm _)
  unfold ksk_end
  try dsimp only
  refine step _ ?_
  by_cases h2 : vs.toArray.size < 2
  · rw [if_pos h2, if_pos h2]
    refine wpAny_bind (wpAny_pure ?_)
    rw [StateT.run_pure]
    refine wpAny_bind (wpAny_pure ?_)
    try dsimp only
    refine sk_tail (st := SortSt.mk' general' (if b = true then (keys.zip vs.toArray).reverse else keys.zip vs.toArray) #[] 7 none) I fa fk hoa hok hka hk hlen h64 hstart ?_ rfl h
    intro i j hij hj
    have hj2 : j < (if b = true then (keys.zip vs.toArray).reverse else keys.zip vs.toArray).size := hj
    rw [hstart.size_eq, hzs] at hj2
    rw [List.size_toArray] at h2
    have : i = j := by omega
    subst this
    exact Int.le_refl _
  · rw [if_neg h2, if_neg h2]
    rw [List.size_toArray] at h2
    rw [ksk_kind hk (by rw [hsz]; omega)]
    refine wpAny_bind (wpAny_pure ?_)
    refine wpAny_bind (wpAny_mono (wpS_sortRuns (a₀ := keys.zip vs.toArray) (st := SortSt.mk' oneType' (if b = true then (keys.zip vs.toArray).reverse else keys.zip vs.toArray) #[] 7 none)
      (Q := fun _ st' => (arrOf st').Perm (keys.zip vs.toArray) ∧ failedOf st' = none ∧ SortedTo (arrOf st') (keys.zip vs.toArray).size)
      (ksk_intKeys hk) ⟨hstart, rfl, rfl, rfl⟩ (by rw [hzs]; omega) (by rw [hzs]; exact h64) fun st' a1 a2 a3 => ⟨a1, a2, a3⟩) ?_ fun _ _ e => e)
    rintro ⟨⟨⟩, st'⟩ s' ⟨rfl, hp, hf, hs⟩
    try dsimp only
    exact sk_tail I fa fk hoa hok hka hk hlen h64 hp (by rw [hp.size_eq]; exact hs) hf h
theorem sk_rest {f : Value} (I : Inv X pins σ H s) (fa : FpOk X pins H a) (fk : FpOk X pins H kS) (hoa : s.heap.get? a = some (seqObj "list" #[] e1)) (hok : s.heap.get? kS = some (seqObj "list" #[] 0)) (hka : kS ≠ a)
    (hlen : kz.length = vs.length) (h64 : vs.length < 64)
    (turn : ∀ (i : Nat) (v : Value) (k : Int), vs[i]? = some v → kz[i]? = some k → ∀ (pl : List (Addr × Obj)) (s' : Shared), Inv X (pins ++ pl) σ H s' → wpAny (model X.prog X.w) A (call f [v]) (KEnd X (pins ++ pl) σ H k) (fun _ _ => False) s')
    (h : ∀ (s' : Shared) (h' : Heap) (tk : Nat) (out : Array Value) (c : Nat), Inv X pins σ H { s' with heap := h', toks := tk } → h'.get? a = some (seqObj "list" out c) → KskOut b kz vs out.toList → P (.done (.ret .none)) { s' with heap := h', toks := tk }) :
    wpAny (model X.prog X.w) A (ksk_rest a f b vs.toArray e1 (.ref kS)) P E s := by
  unfold ksk_rest
  refine wpAny_bind (wpAny_rule ?_)
  first
    | rw [List.forIn_toArray]
    | (rw [← Array.forIn_toList]; simp only [List.toList_toArray])
    | rw [← Array.forIn_toList]
  refine wpAny_bind (ksk_fold (fun i s' => ∃ kA e, Inv X pins σ H s' ∧ s'.heap.get? a = some (seqObj "list" #[] e1) ∧ s'.heap.get? kS = some (seqObj "list" kA e) ∧ IntsAre kA.toList (kz.take i)) vs 0 s
    ⟨#[], 0, I, hoa, hok, by simpa using IntsAre.nil⟩ ?step ?done)
  case step =>
    rintro j x s' hx ⟨kA, e, I', oa, ok, hk⟩
    simp only [Nat.zero_add] at hk ⊢
    have hj : j < vs.length := (List.getElem?_eq_some_iff.mp hx).1
    obtain ⟨k, hkj⟩ : ∃ k, kz[j]? = some k := ⟨_, List.getElem?_eq_getElem (by omega)⟩
    have hz : kA.size ≤ vs.length := by
      have h1 := hk.length
      rw [Array.length_toList, List.length_take] at h1
      omega
    have hfp : ∀ b ∈ [a, kS], FpOk X pins H b := fun d hd => by
      rcases List.mem_cons.mp hd with rfl | hd
      · exact fa
      · rw [List.mem_singleton.mp hd]; exact fk
    have hob : ∀ b ∈ [a, kS], ∃ o, s'.heap.get? b = some o ∧ ∀ v, o.data ≠ .cell v := fun d hd => by
      rcases List.mem_cons.mp hd with rfl | hd
      · exact ⟨_, oa, fun v z => by cases z⟩
      · rw [List.mem_singleton.mp hd]; exact ⟨_, ok, fun v z => by cases z⟩
    refine wpAny_bind (wpAny_attempt (wpAny_mono (turn j x k hx hkj _ s' (I'.pinned hfp hob)) (fun v s'' he => ?_) fun _ _ hF => hF.elim))
    obtain ⟨t2, rfl, I2⟩ := he
    try dsimp only
    have oa2 := (I2.pin (a, seqObj "list" #[] e1) (List.mem_append_right _ (List.mem_append_right _ (mem_pinsAt (by simp) oa)))).1
    have ok2 := (I2.pin (kS, seqObj "list" kA e) (List.mem_append_right _ (List.mem_append_right _ (mem_pinsAt (by simp) ok)))).1
    have I3 := I2.unpinned
    have s1 := Heap.SameBut.update s''.heap kS (Obj.mapSeq (·.push (.int k t2)))
    obtain ⟨c2, hc2⟩ : ∃ c2, (s''.heap.update kS (Obj.mapSeq (·.push (.int k t2)))).get? kS = some (seqObj "list" (kA.push (.int k t2)) c2) := ⟨_, get?_update_seq ok2 (·.push (.int k t2))⟩
    have ek : kz.take (j + 1) = kz.take j ++ [k] := by rw [List.take_add_one, hkj]; simp
    have ea : (kA.push (Value.int k t2)).toList = kA.toList ++ [Value.int k t2] := by simp
    refine wpAny_bind (listUpdate_at ok2 rfl ?_ (by rw [sizeLine_eq]; omega) (Nat.le_trans (Nat.le_of_eq (Array.size_push ..)) (by rw [sizeLine_eq]; omega)))
    refine wpAny_pure ⟨rfl, kA.push (.int k t2), c2, I3.turnedL (ch := [kS]) (fun d o hd e => (s1.2 d fun z => hd (by simp [z])).trans e) (fun d hd => by rw [List.mem_singleton.mp hd]; exact fk), (s1.2 a hka.symm).trans oa2, hc2, by rw [ea, ek]; exact ksk_snoc hk⟩
  case done =>
    rintro s' ⟨kA, e, I', oa, ok, hk⟩
    have hk' : IntsAre kA.toList kz := by
      have e3 : kz.take (0 + vs.length) = kz := List.take_of_length_le (by omega)
      rw [e3] at hk
      exact hk
    try dsimp only
    refine wpAny_bind (listItems_at ok rfl ?_)
    exact sk_end I' fa fk oa ok hka hk' hlen h64 fun h3 tk3 out c F3 N3 k3 => h s' h3 tk3 out c F3 N3 k3
theorem sk_sort {f : Value} {n : Nat} (I : Inv X pins σ H s) (fa : FpOk X pins H a) (ho : s.heap.get? a = some (seqObj "list" vs.toArray n))
    (hlen : kz.length = vs.length) (h64 : vs.length < 64)
    (turn : ∀ (i : Nat) (v : Value) (k : Int), vs[i]? = some v → kz[i]? = some k → ∀ (pl : List (Addr × Obj)) (s' : Shared), Inv X (pins ++ pl) σ H s' → wpAny (model X.prog X.w) A (call f [v]) (KEnd X (pins ++ pl) σ H k) (fun _ _ => False) s')
    (h : ∀ (s' : Shared) (h' : Heap) (tk : Nat) (out : Array Value) (c : Nat), Inv X pins σ H { s' with heap := h', toks := tk } → h'.get? a = some (seqObj "list" out c) → KskOut b kz vs out.toList → P (.done (.ret .none)) { s' with heap := h', toks := tk }) :
    wpAny (model X.prog X.w) A (ksk_tree a f b) P E s := by
  have ha : a < s.heap.objs.size := Heap.lt_size ho
  have s1 := Heap.SameBut.update s.heap a (Obj.mapSeq fun _ => (#[] : Array Value))
  obtain ⟨e1, ho1⟩ : ∃ e1, (s.heap.update a (Obj.mapSeq fun _ => (#[] : Array Value))).get? a = some (seqObj "list" #[] e1) := ⟨_, get?_update_seq ho fun _ => #[]⟩
  have hkS : ((s.heap.update a (Obj.mapSeq fun _ => (#[] : Array Value))).push (seqObj "tuple" vs.toArray 0)).objs.size = s.heap.objs.size + 1 := by rw [size_push', Heap.size_update]
  unfold ksk_tree
  refine wpAny_bind (listItems_at ho rfl ?_)
  refine wpAny_bind (listUpdate_at ho rfl ?_ (by rw [List.size_toArray, sizeLine_eq]; omega) (Nat.zero_le _))
  refine wpAny_bind (seqEpoch_at ho1 rfl ?_)
  refine wpAny_bind (wpAny_newTuple ?_ (by show vs.length ≤ _; rw [sizeLine_eq]; omega))
  refine wpAny_bind (wpAny_newList ?_ (Nat.zero_le _))
  refine wpAny_holding ?_
  refine sk_rest (s := { s with heap := ((s.heap.update a (Obj.mapSeq fun _ => (#[] : Array Value))).push (seqObj "tuple" vs.toArray 0)).push (seqObj "list" #[] 0) }) (kS := ((s.heap.update a (Obj.mapSeq fun _ => (#[] : Array Value))).push (seqObj "tuple" vs.toArray 0)).objs.size)
    (I.turnedL (t' := s.toks) (ch := [a]) (fun d o hd e => ?_) fun d hd => ?_) fa (I.fpOk (by rw [hkS]; omega) (I.hok.fresh (by rw [hkS]; omega))) ?_ ?_ (by rw [hkS]; exact Nat.ne_of_gt (Nat.lt_succ_of_lt ha)) hlen h64 turn h
  · exact Heap.get?_push_of_some _ (Heap.get?_push_of_some _ ((s1.2 d fun z => hd (by simp [z])).trans e))
  · rw [List.mem_singleton.mp hd]; exact fa
  · exact Heap.get?_push_of_some _ (Heap.get?_push_of_some _ ho1)
  · exact Heap.get?_push_size _ rfl
end
end Vf

set_option maxRecDepth 100000
set_option maxHeartbeats 4000000
namespace Vf
open PySem PySem.Spec PyProof.Rows L2 SX LamX
section
variable {X : Cx} {pins : List (Addr × Obj)} {σ : L2.St} {H : Hp} {s : Shared} {E : Value → Shared → Prop} {b : Bool} {vs : List Value} {kz : List Int} {Q : Value → Shared → Prop}
theorem sk_sorted {l : Addr} {f : Value} {kw : List (Str × Value)} (I : Inv X pins σ H s) (hl : s.heap.IsList l vs.toArray) (hlen : kz.length = vs.length) (h64 : vs.length < 64)
    (ha1 : argsOk "sorted" ⟨[.ref l], kw⟩) (ha2 : ∀ x, argsOk "list.sort" ⟨[.ref x], kw⟩) (ht : ∀ x, Builtin.«list.sort» ⟨[.ref x], kw⟩ = ksk_tree x f b)
    (turn : ∀ (i : Nat) (v : Value) (k : Int), vs[i]? = some v → kz[i]? = some k → ∀ (pl : List (Addr × Obj)) (s' : Shared), Inv X (pins ++ pl) σ H s' → wpAny (model X.prog X.w) X.A.in1.in1 (call f [v]) (KEnd X (pins ++ pl) σ H k) (fun _ _ => False) s')
    (h : ∀ (D : Addr) (s' : Shared) (h' : Heap) (tk : Nat) (out : Array Value) (c : Nat), Inv X pins σ H { s' with heap := h', toks := tk } → FpOk X pins H D → h'.get? D = some (seqObj "list" out c) → KskOut b kz vs out.toList → Q (.ref D) { s' with heap := h', toks := tk }) :
    wpAny (model X.prog X.w) X.A (call (.builtin "sorted") [.ref l] kw) Q E s := by
  refine call_function_entry_kw kind_sorted plain_sorted entry_sorted ha1 ?_
  unfold Builtin.«sorted»
  refine wpAny_bind (m := checkCount "sorted" 1 1 _) (wpAny_pure ?_)
  refine wpAny_bind (collect_list hl ?_ (by rw [sizeLine_eq]; omega))
  refine wpAny_bind (wpAny_newList ?_ (by rw [sizeLine_eq]; omega))
  have hsz : ((s.heap.push (seqObj "list" #[] 0)).update s.heap.objs.size (Obj.mapSeq (· ++ vs.toArray))).objs.size = s.heap.objs.size + 1 := by
    rw [Heap.size_update, size_push']
  have hoL : (((s.heap.push (seqObj "list" #[] 0)).update s.heap.objs.size (Obj.mapSeq (· ++ vs.toArray))).push (seqObj "list" vs.toArray 0)).get? (s.heap.objs.size + 1) = some (seqObj "list" vs.toArray 0) := by
    rw [← hsz]; exact Heap.get?_push_size _ rfl
  have keep : ∀ b o, s.heap.get? b = some o → (((s.heap.push (seqObj "list" #[] 0)).update s.heap.objs.size (Obj.mapSeq (· ++ vs.toArray))).push (seqObj "list" vs.toArray 0)).get? b = some o := fun b o q => by
    have hlt : b < s.heap.objs.size := Heap.lt_size q
    rw [Heap.get?_push_ne _ _ _ (by rw [hsz]; exact Nat.ne_of_lt (Nat.lt_succ_of_lt hlt)), Heap.get?_update_ne _ _ _ _ (Nat.ne_of_lt hlt), Heap.get?_push_ne _ _ _ (Nat.ne_of_lt hlt)]
    exact q
  have fD : FpOk X pins H (s.heap.objs.size + 1) := I.fpOk (Nat.le_succ _) (I.hok.fresh (Nat.le_succ _))
  show wpAny _ _ _ _ _ { s with heap := ((s.heap.push (seqObj "list" #[] 0)).update s.heap.objs.size (Obj.mapSeq (· ++ vs.toArray))).push (seqObj "list" vs.toArray 0) }
  rw [hsz]
  refine wpAny_bind (wpAny_holding (wpAny_call_entry_kw slot_list_sort ⟨_, hoL, rfl⟩ entry_list_sort ?body (ha2 _)))
  case body =>
    have ht' := ht (s.heap.objs.size + 1)
    show wpAny (model X.prog X.w) X.A.in1.in1 (Builtin.«list.sort» ⟨[.ref (s.heap.objs.size + 1)], kw⟩) _ _ _
    rw [ht']
    refine sk_sort (s := { s with heap := ((s.heap.push (seqObj "list" #[] 0)).update s.heap.objs.size (Obj.mapSeq (· ++ vs.toArray))).push (seqObj "list" vs.toArray 0) })
      (I.kept (t' := s.toks) keep) fD hoL hlen h64 turn fun s' h' tk out c I' o' k' => ⟨_, rfl, ?_⟩
    exact wpAny_pure ⟨_, rfl, h _ s' h' tk out c I' fD o' k'⟩
theorem track_list {D : Addr} {ys : List V} {out : Array Value} {c : Nat} (I : Inv X pins σ H s) (f : FpOk X pins H D) (ho : s.heap.get? D = some (seqObj "list" out c)) (r : Vals ys out.toList) (hz : ys.length ≤ sizeLine) : Inv X pins σ (upd H D (.lst ys)) s := by
  have nD : ∀ b u, H b = some u → b ≠ D := fun b u e => ne_of_none e f.1
  refine I.step (h' := s.heap) (g' := s.gens) (d' := s.drawn) (t' := s.toks) (ch := [D]) (fun b hb => ?_) (fun b o _ _ _ e _ => e) (fun b o _ _ _ e _ => ⟨o.slots, e⟩) (fun b o hb _ n => ?_) (fun b o _ e => ⟨o, e⟩) (fun b xs e => ?_) (fun b o u e => ?_) (fun b ps e => ⟨#[], ?_⟩) (fun m hm => hm) (fun b u e => ?_) I.bare
  · rw [List.mem_singleton.mp hb]
    exact ⟨f.2.2.2.1, f.2.1, f.2.2.2.2.1, f.2.2.2.2.2⟩
  · rw [upd_ne fun z => hb (by simp [z])]; exact n
  · rw [upd_ne (nD b _ e)]; exact e
  · rw [upd_ne (nD b _ e)]; exact e
  · rw [upd_ne (nD b _ e), e]; simp
  · by_cases hb : b = D
    · subst hb
      rw [upd_same] at e
      cases e
      exact ⟨hz, out.toList, c, r, by rw [Array.toArray_toList]; exact ho⟩
    · rw [upd_ne hb] at e
      exact (I.hok b u e).stay (fun d v hd q => q) (fun d q => by rw [upd_ne (nD d _ q)]; exact q) fun d xs q => by rw [upd_ne (nD d _ q)]; exact q
end
theorem perm_map_inv {α β : Type} {f : α → β} {l₁ l₂ : List β} (p : l₁.Perm l₂) : ∀ {l : List α}, l₂ = l.map f → ∃ l' : List α, l'.Perm l ∧ l₁ = l'.map f := by
  induction p with
  | nil => intro l h; exact ⟨l, .refl _, h⟩
  | cons x p ih =>
    intro l h
    cases l with
    | nil => cases h
    | cons a l0 =>
      rw [List.map_cons] at h
      cases h
      obtain ⟨l', q, rfl⟩ := ih rfl
      exact ⟨a :: l', q.cons a, rfl⟩
  | swap x y l0 =>
    intro l h
    cases l with
    | nil => cases h
    | cons a l1 =>
      cases l1 with
      | nil => cases h
      | cons c l2 =>
        simp only [List.map_cons] at h
        cases h
        exact ⟨c :: a :: l2, .swap _ _ _, rfl⟩
  | trans p q ih1 ih2 =>
    intro l h
    obtain ⟨l1, q1, e1⟩ := ih2 h
    obtain ⟨l2, q2, e2⟩ := ih1 e1
    exact ⟨l2, q2.trans q1, e2⟩
theorem vals_zip : ∀ {xs : List V} {vs : List Value}, Vals xs vs → (∀ p ∈ xs.zip vs, RelV p.1 p.2) ∧ (xs.zip vs).map Prod.fst = xs
  | _, _, .nil => ⟨fun _ h => (nomatch h), rfl⟩
  | _, _, .cons r t => ⟨fun p hp => by
      rcases List.mem_cons.mp hp with rfl | hp
      · exact r
      · exact (vals_zip t).1 p hp, by
      simp only [List.zip_cons_cons, List.map_cons, (vals_zip t).2]⟩
theorem vals_of {zs : List (V × Value)} (h : ∀ p ∈ zs, RelV p.1 p.2) : Vals (zs.map Prod.fst) (zs.map Prod.snd) := by
  induction zs with
  | nil => exact .nil
  | cons p r ih => exact .cons (h p (.head _)) (ih fun q hq => h q (.tail _ hq))
/-- what comes out, told of the values -/
theorem ksk_vals {k : V → Int} {xs : List V} {vs out : List Value} (r : Vals xs vs) (h : KskOut false (xs.map k) vs out) : ∃ ys : List V, ys.Perm xs ∧ ys.Pairwise (fun p q => k p ≤ k q) ∧ Vals ys out := by
  obtain ⟨ps, hp, rfl, hs⟩ := h
  have e : (xs.map k).zip vs = (xs.zip vs).map fun p => (k p.1, p.2) := by
    rw [List.zip_map_left]
    rfl
  rw [e] at hp
  obtain ⟨zs, q, rfl⟩ := perm_map_inv hp rfl
  obtain ⟨r1, r2⟩ := vals_zip r
  refine ⟨zs.map Prod.fst, ?_, ?_, ?_⟩
  · have := q.map Prod.fst
    rw [r2] at this
    exact this
  · rw [List.pairwise_map] at hs ⊢
    exact hs.imp fun {a c} h => by simpa using h
  · have e2 : (zs.map fun p : V × Value => (k p.1, p.2)).map Prod.snd = zs.map Prod.snd := by rw [List.map_map]; rfl
    rw [e2]
    exact vals_of fun p hp => r1 p (q.mem_iff.mp hp)
def tSortK (K : PySem.W.Frag) (T : List (Addr × Str)) (N : List Str) (tb : TE) (ta : TA) : TE := fun σ H Q => ta σ H fun ws H1 => ∃ (a : Addr) (xs : List V) (k : V → Int), ws = [.ref a] ∧ SqL K H1 a xs ∧ xs.length < 64 ∧ Tabs T H1 ∧
  (∀ H2, ExtN H1 H2 → ∀ y ∈ xs, tb (L2.start N [y]) H2 fun v' H' => v' = .int (k y) ∧ H' = H2) ∧
  ∀ (H2 : Hp) (D : Addr) (ys : List V), ExtN H1 H2 → Tabs T H2 → H2 D = none → ys.Perm xs → ys.Pairwise (fun p q => k p ≤ k q) → Q (.ref D) (upd H2 D (.lst ys))
theorem sqL_extN {K : PySem.W.Frag} {H H' : Hp} {a : Addr} {xs : List V} (h : SqL K H a xs) (e : ExtN H H') : SqL K H' a xs := by
  rcases h with (h | ⟨o, h⟩) | h
  · exact .inl (.inl (e _ _ h fun _ z => by cases z))
  · exact .inl (.inr ⟨o, e _ _ h fun _ z => by cases z⟩)
  · exact .inr h
/-- sorted(xs, key=lambda x: ..) -/
theorem pe_sortedK {X : Cx} {T : List (Addr × Str)} {c P : Addr} {k : Nat} {x : Str} {N : List Str} {params : Arguments} {body : Expr} {scope : Scope} {e : Expr} {ta : TA} {tb : TE} {p pos kpos lpos : Pos} (hg : Gl X "sorted") (hm : X.mg "sorted" = none)
    (TB : TabB X.base X.mg c P) (hcode : X.env.code = .ref c) (hmT : (P, X.env.qual ++ "<lambda>") ∈ T) (hu : ∀ p ∈ T, p.1 = P → p.2 = X.env.qual ++ "<lambda>") (hr : Room (k + 3) X.A) (S : FnScope N [x] scope) (hdef : defaultsOf params X.env = ([], []))
    (hbind : ∀ (q : Str) (cl : List (Str × Addr)) (pm cv ctv v : Value), bindArgs (PySem.W.kla_fn "<lambda>" q params body scope cl pm cv ctv) ⟨[v], []⟩ = pure [(x, v)])
    (hbody : ∀ (A : Around) (outer : List Env) (s : Shared) (H : Hp) (f c' : Addr), Room k (A.deeper (envOfC (X.env.qual ++ "<lambda>") scope s.heap.objs.size f (.ref c'))) → PE (cxOf C8.CX0 X.prog X.w X.K X.mg X.base N (X.env.qual ++ "<lambda>") scope f (.ref c') A outer s H C8.E0) body tb)
    (ha : PA X [e] ta) (he : backTo pos (starEach [e] X.env) = (false, eval e X.env) :: backTo pos (starEach [] X.env) := by rfl) (hpl : (backTo pos (starEach [e] X.env)).any (·.1) = false := by rfl) :
    PE X (.Call (.Name "sorted" p) [e] [⟨some "key", .Lambda params body scope lpos, kpos⟩] pos) (tSortK X.K T N tb ta) := by
  refine ⟨fun pins s σ H Q I h => ?_⟩
  refine wpAny_Call_Name_kw (ld_blt I hg hm (u := .builtin "sorted") (by rfl) ?_ (by decide) (by decide))
  refine PyProof.Rows.callWith_kw (thn (ha.run pos pins s σ H _ I h) fun us s1 ⟨ws, H1, I1, r1, a, xs, key, ew, hxs, h64, hT, hkey, q1⟩ => ?_) he hpl (by rfl) (by rfl)
  subst ew
  obtain ⟨u1, rfl, ru⟩ := vals1 r1
  obtain rfl : u1 = Value.ref a := ru
  show wpAny _ _ (evalAll ((do let v ← eval (.Lambda params body scope lpos) X.env; standAt pos; pure v) :: [])) _ _ s1
  refine wpAny_evalAll_cons (wpAny_bind (lam_make2 I1 TB hcode hmT hu hT hdef (fun y hy e => absurd e (S.nofree y hy)) fun f c' pm' ctv H2 s2 I2 eN T2 hf hfn hfr hco => wpAny_bind (wpAny_standAt (wpAny_pure (wpAny_evalAll_nil ?_)))))
  rw [clo_none S.nofree] at hf
  obtain ⟨vs, rv, pl, hsl⟩ := I2.list (sqL_extN hxs eN)
  have hvl : xs.length = vs.length := rv.length
  have fs : f ∉ X.fs := fun z => hfr (by
    rcases I2.ok.stk with e | ⟨e, _⟩
    · rw [e]; exact z
    · rw [e]
      show f ∈ frs (X.env :: X.outer)
      unfold frs
      rw [List.filterMap_cons]
      split
      · exact z
      · exact .tail _ z)
  have fl : f ≠ X.env.locals := fun z => by
    obtain ⟨m, ⟨o, es, ep, ho, hd', _⟩, _⟩ := I2.loc
    rw [← z, hf] at ho
    cases ho
    cases hd'
  have J : Inv X (pins ++ [(f, PySem.W.kla_obj "<lambda>" (X.env.qual ++ "<lambda>") params body scope [] pm' c' ctv)]) σ H2 s2 := I2.pins_of fun p hp => by
    rcases List.mem_append.mp hp with hp | hp
    · exact I2.pin p (List.mem_append_right _ hp)
    · rw [List.mem_singleton.mp hp]
      exact ⟨hf, hfn, fl, fs, fun v z => by cases z⟩
  show wpAny _ _ (call (.builtin "sorted") [.ref a] [(Str.ofString "key", .ref f)]) _ _ s2
  refine sk_sorted (kz := xs.map key) (vs := vs) (b := false) (f := .ref f) J pl.isList (by rw [List.length_map]; exact hvl) (by omega) (ksk_s1 _ _) (fun x => ksk_l1 _ _) (fun x => ksk_t1 f x) (fun i v kk hv hk pl' s' I' => ?_) fun D s' h' tk out cc I' fD ho ko => ?_
  · have hi : i < xs.length := by
      have := (List.getElem?_eq_some_iff.mp hv).1
      omega
    have hy : xs[i]? = some xs[i] := List.getElem?_eq_getElem hi
    obtain ⟨u, hu', ru⟩ := rv.get hy
    rw [hv] at hu'
    cases hu'
    rw [List.getElem?_map, hy] at hk
    cases hk
    have of' := (I'.pin (f, PySem.W.kla_obj "<lambda>" (X.env.qual ++ "<lambda>") params body scope [] pm' c' ctv) (List.mem_append_right _ (List.mem_append_left _ (List.mem_append_right _ (.head _))))).1
    exact key_call I' S of' (hbind _ _ _ _ _ _) hr.in1.in1 I'.env0.in1.in1 hco ru (fun A outer s H hr' => hbody A outer s H f c' hr') (hkey H2 eN xs[i] (List.getElem_mem hi))
  · obtain ⟨ys, hp, hs, hv⟩ := ksk_vals rv ko
    have I3 : Inv X pins σ H2 { s' with heap := h', toks := tk } := I'.unpinned
    have fD' : FpOk X pins H2 D := ⟨fD.1, fD.2.1, fD.2.2.1, fD.2.2.2.1, fD.2.2.2.2.1, fun p hp => fD.2.2.2.2.2 p (by
      rcases List.mem_append.mp hp with z | z
      · exact List.mem_append_left _ z
      · exact List.mem_append_right _ (List.mem_append_left _ z))⟩
    refine ⟨.ref D, _, track_list I3 fD' ho hv ?_, rfl, q1 H2 D ys eN T2 fD.1 hp hs⟩
    have e1 := hp.length_eq
    rw [sizeLine_eq]
    omega
end Vf

set_option maxRecDepth 100000
set_option maxHeartbeats 4000000
namespace Vf
open PySem PySem.Spec PyProof.Rows L2 SX LamX
theorem vals_get : ∀ {xs : List V} {us : List Value}, xs.length = us.length → (∀ (i : Nat) (x : V) (y : Value), xs[i]? = some x → us[i]? = some y → RelV x y) → Vals xs us
  | [], [], _, _ => .nil
  | [], _ :: _, h, _ => nomatch h
  | _ :: _, [], h, _ => nomatch h
  | x :: xs, u :: us, h, r => .cons (r 0 x u rfl rfl) (vals_get (Nat.succ.inj h) fun i x y hx hy => r (i + 1) x y hx hy)
theorem ne_cls {s : Shared} {a b : Addr} {T T' : String} (h : s.TypeIs (.ref a) T) (h' : s.TypeIs (.ref b) T') (n : T ≠ T') : a ≠ b := fun z => by
  obtain ⟨o, ho, hc⟩ := h
  obtain ⟨o', ho', hc'⟩ := h'
  rw [z, ho'] at ho
  cases ho
  rw [hc] at hc'
  exact n (Value.type.inj hc')
/-! ### list(text) -/
theorem call_listS {X : Cx} (hc : X.calm = true) : CallR X (.type "list") (fun xs H Q => ∃ (l : List Nat), xs = [.str (S l)] ∧ l.length ≤ 1000000 ∧ ∀ p, H p = none → Q (.ref p) (upd H p (.lst (l.map fun c => .str (S [c]))))) := by
  intro pins s σ H xs us Q I r h
  obtain ⟨l, rfl, hl, q⟩ := h
  obtain ⟨u, rfl, ru⟩ := vals1 r
  obtain ⟨t, rfl⟩ := ru
  have hz0 : (S l).cps.size = l.length := by show l.toArray.size = _; exact List.size_toArray
  refine call_list_str (I.ok.hd hc) (S l) t (hn := by rw [hz0]; exact Nat.le_trans hl (by decide)) fun h' tk acc' c' hk hS' hacc => ?_
  have hz : acc'.size = l.length := by rw [hacc.1, hz0]
  have hv : Vals (l.map fun c => V.str (S [c])) acc'.toList := by
    refine vals_get (by rw [List.length_map, Array.length_toList]; exact hz.symm) fun i x y hx hy => ?_
    rw [List.getElem?_map] at hx
    obtain ⟨c, u, hc', rfl⟩ := hacc.2 i y (by rw [← Array.getElem?_toList]; exact hy)
    have e : l[i]? = some c := by
      have : (S l).cps[i]? = l[i]? := by show l.toArray[i]? = _; rw [List.getElem?_toArray]
      rw [← this]; exact hc'
    rw [e] at hx
    cases hx
    exact ⟨u, rfl⟩
  refine ⟨.ref s.heap.objs.size, _, I.laid (a := s.heap.objs.size) (o := .lst (l.map fun c => V.str (S [c]))) (t' := tk) hk (Nat.le_refl _) ⟨by rw [List.length_map]; exact Nat.le_trans hl (by decide), acc'.toList, c', hv, by rw [Array.toArray_toList]; exact hS'⟩, rfl, q _ (I.hok.fresh (Nat.le_refl _))⟩
/-! ### enumerate(list, start=k), enumerate(tuple) -/
def IteK (K : PySem.W.Frag) (a : Addr) (k0 : Int) : It :=
  ⟨fun i H => ∃ (xs : List V) (x : V), SqL K H a xs ∧ xs[i]? = some x, fun i H v H' => ∃ T x, v = .ref T ∧ H T = none ∧ H' = upd H T (.tup [.int (k0 + ((i : Nat) : Int)), x]) ∧ ∀ xs, SqL K H a xs → xs[i]? = some x, fun i H => ∃ xs : List V, SqL K H a xs ∧ xs.length = i⟩
def IteT (K : PySem.W.Frag) (a : Addr) : It :=
  ⟨fun i H => ∃ (xs : List V) (x : V), SqT K H a xs ∧ xs[i]? = some x, fun i H v H' => ∃ T x, v = .ref T ∧ H T = none ∧ H' = upd H T (.tup [.int ((i : Nat) : Int), x]) ∧ ∀ xs, SqT K H a xs → xs[i]? = some x, fun i H => ∃ xs : List V, SqT K H a xs ∧ xs.length = i⟩
theorem turn_enumK {P : Program} {w : World} {K : PySem.W.Frag} {elts : List Expr} {kk : Nat} {tpos : Pos} (a e it : Addr) (k0 : Int) :
    Turn P w K (.Tuple elts kk tpos) (IteK K a k0) [e, it] e (fun i h => (∃ old, IsEnum h e it (k0 + ((i : Nat) : Int)) old) ∧ h.IsListIter it a i ∧ e ≠ it) where
  mem := by simp
  obj := fun i h st b hb => by
    obtain ⟨⟨old, he⟩, ⟨o, ho, hc, hd⟩, _⟩ := st
    have e' : b = e ∨ b = it := by simpa using hb
    rcases e' with z | z
    · rw [z]; exact ⟨_, he, fun v q => nomatch q⟩
    · rw [z]; exact ⟨o, ho, fun v q => by rw [hd] at q; cases q⟩
  keep := fun i h h' st k => let ⟨⟨old, he⟩, hi, hne⟩ := st; ⟨⟨old, k e (by simp) _ he⟩, hi.at fun o q => k it (by simp) o q, hne⟩
  item := by
    intro X hP hw hK hc i pins s σ H E I hf st hg
    subst hP hw hK
    obtain ⟨⟨old, he⟩, hit, hne⟩ := st
    obtain ⟨xs, x, hq, hx⟩ := hg
    obtain ⟨its, rv, p, hz⟩ := I.list hq
    obtain ⟨u, hu, ru⟩ := rv.get hx
    have hel : e < s.heap.objs.size := Heap.lt_size he
    have hil : it < s.heap.objs.size := by obtain ⟨_, q, _⟩ := hit; exact Heap.lt_size q
    have pl := p.isList
    have nea : e ≠ a := ne_cls (T := "enumerate") (T' := "list") ⟨_, he, rfl⟩ pl.typeIs (by decide)
    have nia : a ≠ it := by
      obtain ⟨o, ho, hcl, hd⟩ := hit
      exact ne_cls (T := "list") (T' := "list_iterator") pl.typeIs ⟨o, ho, hcl⟩ (by decide)
    have hlt : i < its.toArray.size := by
      have := (List.getElem?_eq_some_iff.mp hu).1
      rw [List.size_toArray]; exact this
    refine wpAny_pyNext_enum_itemC (Draws.list (prog := X.prog) (w := X.w) (A := X.A.in1) (I.ok.hd hc) it a nia its.toArray) he ⟨hit, pl⟩ hlt hne (by simp [hne, nea]) fun y h' tk hy ho ⟨hit', _⟩ hT hsz hk => ?_
    have ey : y = u := by
      have : its.toArray[i]? = some u := by rw [List.getElem?_toArray]; exact hu
      rw [this] at hy
      exact (Option.some.inj hy).symm
    subst ey
    refine ⟨_, rfl, wpAny_letOwnedTupleGo_enum (s := { s with heap := h', toks := tk + 1 }) ho fun h'' he' sb => ?_⟩
    have hT2 : h''.get? s.heap.objs.size = some { cls := .type "tuple", data := .seq #[.int (k0 + (i : Int)) tk, y] } := (sb.2 _ (Nat.ne_of_gt hel)).trans hT
    have new : ObjOk X.prog X.w (upd H s.heap.objs.size (.tup [.int (k0 + (i : Nat)), x])) h'' s.heap.objs.size (.tup [.int (k0 + (i : Nat)), x]) :=
      ⟨by show 2 ≤ sizeLine; decide, [.int (k0 + (i : Int)) tk, y], .cons ⟨_, rfl⟩ (.cons ru .nil), ⟨_, hT2, rfl, _, rfl⟩⟩
    have I1 : Inv X pins σ (upd H s.heap.objs.size (.tup [.int (k0 + (i : Nat)), x])) { s with heap := h'', toks := tk + 1 } :=
      I.turnedNew (ch := [e, it]) (fun b ob hb q => (sb.2 b (fun z => hb (by simp [z]))).trans (hk b ob (fun z => hb (by simp [z])) (fun z => hb (by simp [z])) q)) hf (Nat.le_refl _) new
    refine ⟨.ref s.heap.objs.size, _, I1, rfl, ⟨_, x, rfl, I.hok.fresh (Nat.le_refl _), rfl, fun ys hy => by rw [I.list_inj hy hq]; exact hx⟩, ⟨⟨y, ?_⟩, hit'.at fun o q => (sb.2 it (Ne.symm hne)).trans q, hne⟩, fun b hb => ?_⟩
    · have e1 : k0 + ((i + 1 : Nat) : Int) = k0 + (i : Int) + 1 := by omega
      rw [e1]; exact he'
    · have hb' : b < s.heap.objs.size := by
        have e' : b = e ∨ b = it := by simpa using hb
        rcases e' with z | z
        · rw [z]; exact hel
        · rw [z]; exact hil
      rw [upd_ne (Nat.ne_of_lt hb')]
      exact (hf b hb).1
  done := by
    intro X hP hw hK hc i pins s σ H E I hf st hg
    subst hP hw hK
    obtain ⟨⟨old, he⟩, hit, hne⟩ := st
    obtain ⟨xs, hq, hx⟩ := hg
    obtain ⟨its, rv, p, hz⟩ := I.list hq
    obtain ⟨f0, f1, f2, f3, f4, f5⟩ := hf it (by simp)
    have hl := rv.length
    have pl := p.isList
    have nia : a ≠ it := by
      obtain ⟨o, ho, hcl, hd⟩ := hit
      exact ne_cls (T := "list") (T' := "list_iterator") pl.typeIs ⟨o, ho, hcl⟩ (by decide)
    subst hx
    exact wpAny_pyNext_enum_endD (i := k0 + (xs.length : Int)) (Draws.list (prog := X.prog) (w := X.w) (A := X.A.in1) (I.ok.hd hc) it a nia its.toArray) he (by rw [List.size_toArray, ← hl]; exact ⟨hit, pl⟩) fun h' eb => ⟨rfl, I.turned (t' := s.toks) (fun b o hb q => eb b o hb q) f0 f1 f3 f4 f5⟩
  self := fun A i s Q E st h => let ⟨⟨_, he⟩, _⟩ := st; wpAny_pyIter_enum he h
theorem turn_enumT {P : Program} {w : World} {K : PySem.W.Frag} {elts : List Expr} {kk : Nat} {tpos : Pos} (a e it : Addr) :
    Turn P w K (.Tuple elts kk tpos) (IteT K a) [e, it] e (fun i h => (∃ old, IsEnum h e it ((i : Nat) : Int) old) ∧ h.IsTupleIter it a i ∧ e ≠ it) where
  mem := by simp
  obj := fun i h st b hb => by
    obtain ⟨⟨old, he⟩, ⟨o, ho, hc, hd⟩, _⟩ := st
    have e' : b = e ∨ b = it := by simpa using hb
    rcases e' with z | z
    · rw [z]; exact ⟨_, he, fun v q => nomatch q⟩
    · rw [z]; exact ⟨o, ho, fun v q => by rw [hd] at q; cases q⟩
  keep := fun i h h' st k => let ⟨⟨old, he⟩, hi, hne⟩ := st; ⟨⟨old, k e (by simp) _ he⟩, hi.at fun o q => k it (by simp) o q, hne⟩
  item := by
    intro X hP hw hK hc i pins s σ H E I hf st hg
    subst hP hw hK
    obtain ⟨⟨old, he⟩, hit, hne⟩ := st
    obtain ⟨xs, x, hq, hx⟩ := hg
    obtain ⟨its, rv, p, hz⟩ := I.tuple hq
    obtain ⟨u, hu, ru⟩ := rv.get hx
    have hel : e < s.heap.objs.size := Heap.lt_size he
    have hil : it < s.heap.objs.size := by obtain ⟨_, q, _⟩ := hit; exact Heap.lt_size q
    have pl : s.heap.IsTuple a its.toArray := p
    have nea : e ≠ a := ne_cls (T := "enumerate") (T' := "tuple") ⟨_, he, rfl⟩ pl.typeIs (by decide)
    have nia : a ≠ it := by
      obtain ⟨o, ho, hcl, hd⟩ := hit
      exact ne_cls (T := "tuple") (T' := "tuple_iterator") pl.typeIs ⟨o, ho, hcl⟩ (by decide)
    have hlt : i < its.toArray.size := by
      have := (List.getElem?_eq_some_iff.mp hu).1
      rw [List.size_toArray]; exact this
    refine wpAny_pyNext_enum_itemC (Draws.tuple (prog := X.prog) (w := X.w) (A := X.A.in1) (I.ok.hd hc) it a nia its.toArray) he ⟨hit, pl⟩ hlt hne (by simp [hne, nea]) fun y h' tk hy ho ⟨hit', _⟩ hT hsz hk => ?_
    have ey : y = u := by
      have : its.toArray[i]? = some u := by rw [List.getElem?_toArray]; exact hu
      rw [this] at hy
      exact (Option.some.inj hy).symm
    subst ey
    refine ⟨_, rfl, wpAny_letOwnedTupleGo_enum (s := { s with heap := h', toks := tk + 1 }) ho fun h'' he' sb => ?_⟩
    have hT2 : h''.get? s.heap.objs.size = some { cls := .type "tuple", data := .seq #[.int (i : Int) tk, y] } := (sb.2 _ (Nat.ne_of_gt hel)).trans hT
    have new : ObjOk X.prog X.w (upd H s.heap.objs.size (.tup [.int (i : Nat), x])) h'' s.heap.objs.size (.tup [.int (i : Nat), x]) :=
      ⟨by show 2 ≤ sizeLine; decide, [.int (i : Int) tk, y], .cons ⟨_, rfl⟩ (.cons ru .nil), ⟨_, hT2, rfl, _, rfl⟩⟩
    have I1 : Inv X pins σ (upd H s.heap.objs.size (.tup [.int (i : Nat), x])) { s with heap := h'', toks := tk + 1 } :=
      I.turnedNew (ch := [e, it]) (fun b ob hb q => (sb.2 b (fun z => hb (by simp [z]))).trans (hk b ob (fun z => hb (by simp [z])) (fun z => hb (by simp [z])) q)) hf (Nat.le_refl _) new
    refine ⟨.ref s.heap.objs.size, _, I1, rfl, ⟨_, x, rfl, I.hok.fresh (Nat.le_refl _), rfl, fun ys hy => by rw [I.tuple_inj hy hq]; exact hx⟩, ⟨⟨y, ?_⟩, hit'.at fun o q => (sb.2 it (Ne.symm hne)).trans q, hne⟩, fun b hb => ?_⟩
    · have e1 : ((i + 1 : Nat) : Int) = (i : Int) + 1 := by omega
      rw [e1]; exact he'
    · have hb' : b < s.heap.objs.size := by
        have e' : b = e ∨ b = it := by simpa using hb
        rcases e' with z | z
        · rw [z]; exact hel
        · rw [z]; exact hil
      rw [upd_ne (Nat.ne_of_lt hb')]
      exact (hf b hb).1
  done := by
    intro X hP hw hK hc i pins s σ H E I hf st hg
    subst hP hw hK
    obtain ⟨⟨old, he⟩, hit, hne⟩ := st
    obtain ⟨xs, hq, hx⟩ := hg
    obtain ⟨its, rv, p, hz⟩ := I.tuple hq
    obtain ⟨f0, f1, f2, f3, f4, f5⟩ := hf it (by simp)
    have hl := rv.length
    have pl : s.heap.IsTuple a its.toArray := p
    have nia : a ≠ it := by
      obtain ⟨o, ho, hcl, hd⟩ := hit
      exact ne_cls (T := "tuple") (T' := "tuple_iterator") pl.typeIs ⟨o, ho, hcl⟩ (by decide)
    subst hx
    exact wpAny_pyNext_enum_endD (i := (xs.length : Int)) (Draws.tuple (prog := X.prog) (w := X.w) (A := X.A.in1) (I.ok.hd hc) it a nia its.toArray) he (by rw [List.size_toArray, ← hl]; exact ⟨hit, pl⟩) fun h' eb => ⟨rfl, I.turned (t' := s.toks) (fun b o hb q => eb b o hb q) f0 f1 f3 f4 f5⟩
  self := fun A i s Q E st h => let ⟨⟨_, he⟩, _⟩ := st; wpAny_pyIter_enum he h
set_option maxHeartbeats 4000000 in
theorem meets_enumerate_newB1 {v : Value} {o : Obj} {H : Heap → Prop} (B : Begins v o H) :
    Meets (Builtin.«enumerate.__new__» ⟨[.type "enumerate", v], []⟩) (fun _ R s => H s.heap ∧
      R (.ok (.ret (.ref (s.heap.push o).objs.size))) { s with heap := (s.heap.push o).push { cls := .type "enumerate", data := .fields #[.none, .bool false, .ref s.heap.objs.size, rawInt 0, .none, .none] } }) :=
  .of_wp fun prog w A R s h => by
    obtain ⟨hp, g, d, tk, os⟩ := s; obtain ⟨h1, h⟩ := h
    have hsub := sub_enumerate
    have q1 : ∀ {A' : Around} {E : Value → Shared → Prop} {Q : Value → Shared → Prop}, Q (.ref hp.objs.size) ⟨hp.push o, g, d, tk, os⟩ → wpAny (model prog w) A' (pyIter v) Q E ⟨hp, g, d, tk, os⟩ :=
      fun q => B.iter prog w _ _ ⟨hp, g, d, tk, os⟩ _ h1 q
    wp_walk using q1
    refine wpAny_stack_any fun st => wpAny_pure ?_
    split
    · rename_i c _ _ _ _ _
      cases (c == Value.type "enumerate")
      · wp_walk using q1
        exact ⟨_, rfl, h⟩
      · wp_walk using q1
        exact ⟨_, rfl, h⟩
    · wp_walk using q1
      exact ⟨_, rfl, h⟩
theorem call_enumerate_tuple {prog : Program} {w : World} {A : Around} {E : Value → Shared → Prop} {s : Shared} {l : Addr} {items : Array Value} {Q : Value → Shared → Prop} (hL : s.heap.IsTuple l items)
    (h : ∀ h', IsEnum h' (s.heap.objs.size + 1) s.heap.objs.size 0 .none → h'.IsTupleIter s.heap.objs.size l 0 → h'.objs.size = s.heap.objs.size + 2 →
      (∀ b o, s.heap.get? b = some o → h'.get? b = some o) → Q (.ref (s.heap.objs.size + 1)) { s with heap := h' }) :
    wpAny (model prog w) A (call (.type "enumerate") [.ref l]) Q E s := by
  refine callType_new PySem.F.called_enumerate (by decide) (PySem.F.typeCall_enumerate_1 _) (PySem.F.newCall_enumerate_1 _) (fun obj => PySem.F.args_object_init_2 obj _) PySem.F.entry_enumerate_new
    (meets_enumerate_newB1 (begins_tuple l items)) ⟨hL, ?_⟩
  have hz : (s.heap.push { cls := .type "tuple_iterator", data := .fields #[.ref l, .int 0 0] }).objs.size = s.heap.objs.size + 1 := Heap.size_push ..
  show _ ∧ _
  rw [hz]
  have he : IsEnum ((s.heap.push { cls := .type "tuple_iterator", data := .fields #[.ref l, .int 0 0] }).push
      { cls := .type "enumerate", data := .fields #[.none, .bool false, .ref s.heap.objs.size, rawInt 0, .none, .none] }) (s.heap.objs.size + 1) s.heap.objs.size 0 .none := by
    have := Heap.get?_push_size (s.heap.push { cls := .type "tuple_iterator", data := .fields #[.ref l, .int 0 0] })
      (o := { cls := .type "enumerate", data := .fields #[.none, .bool false, .ref s.heap.objs.size, rawInt 0, .none, .none] }) rfl
    rw [hz] at this; exact this
  refine ⟨⟨_, he, rfl⟩, h _ he ⟨_, Heap.get?_push_of_some _ (Heap.get?_push_size _ rfl), rfl, rfl⟩ (by rw [Heap.size_push, hz]) fun b o x => Heap.get?_push_of_some _ (Heap.get?_push_of_some _ x)⟩
section
variable {X : Cx}
theorem callWith_typeK {M : Model} {A : Around} {E : Value → Shared → Prop} {s : Shared} {env : Env} {pos : Pos} {id : String} {e : Expr} {rest : List Expr} {kws : List Keyword} {Q : Value → Shared → Prop}
    (h : wpAny M A (spliced (backTo pos (starEach (e :: rest) env))) (fun vs s₁ => wpAny M A (evalAll ((backToKw pos (keywordEach kws env)).map (·.2)))
      (fun kvs s₂ => wpAny M A (call (.type id) vs (((backToKw pos (keywordEach kws env)).filterMap (·.1)).zip kvs)) Q E s₂) E s₁) E s)
    (he : backTo pos (starEach (e :: rest) env) = (false, eval e env) :: backTo pos (starEach rest env) := by rfl)
    (hplain : (backTo pos (starEach (e :: rest) env)).any (·.1) = false := by rfl)
    (hall : (backToKw pos (keywordEach kws env)).all (·.1.isSome) = true := by rfl)
    (hkw : (backToKw pos (keywordEach kws env)).any (·.1.isNone) = false := by rfl) :
    wpAny M A (callWith pos (.type id) [] (backTo pos (starEach (e :: rest) env)) (backToKw pos (keywordEach kws env))) Q E s := by
  have h2 : wpAny M A (evalArgs (.type id) true (backTo pos (starEach (e :: rest) env)) (backToKw pos (keywordEach kws env))) (fun a s₁ => wpAny M A (call (.type id) ([] ++ a.pos) a.kw) Q E s₁) E s := by
    rw [he] at h ⊢
    exact evalArgs_kwB hall h
  unfold callWith
  refine wpAny_bind (wpAny_holding (wpAny_mono h2 (fun a s₁ h₁ => wpAny_bind (wpAny_standAt ?_)) fun _ _ x => x))
  simp only [hplain, hkw, Bool.or_false]
  refine wpAny_bind (wpAny_pure ?_)
  exact wpAny_bind (wpAny_mono h₁ (fun r s₂ hr => wpAny_bind (wpAny_holding (wpAny_point (wpAny_pure hr)))) fun _ _ x => x)
def iEnumK (K : PySem.W.Frag) (ta : TA) (tk : TE) : TI := fun σ H R => ta σ H fun vs H1 => ∃ a xs, vs = [.ref a] ∧ SqL K H1 a xs ∧ tk σ H1 fun v H2 => ∃ k0 : Int, v = .int k0 ∧ -(2 ^ 62) ≤ k0 ∧ k0 < 2 ^ 62 ∧ SqL K H2 a xs ∧ R (IteK K a k0) H2
theorem pi_enumK {e ek : Expr} {ta : TA} {tk : TE} {p pos kpos tpos : Pos} {elts : List Expr} {kk : Nat} (hg : Gl X "enumerate") (hm : X.mg "enumerate" = none) (ha : PA X [e] ta) (hk : PE X ek tk) (hs : backTo pos (starEach [e] X.env) = (false, eval e X.env) :: backTo pos (starEach [] X.env) := by rfl)
    (hpl : (backTo pos (starEach [e] X.env)).any (·.1) = false := by rfl) :
    PI X (.Tuple elts kk tpos) (.Call (.Name "enumerate" p) [e] [⟨some "start", ek, kpos⟩] pos) (iEnumK X.K ta tk) := by
  refine ⟨fun pins s σ H R I h => ?_⟩
  refine wpAny_Call_Name_kw (ld_blt I hg hm (u := .type "enumerate") boot_enumerate ?_ (by decide) (by decide))
  refine callWith_typeK (thn (ha.run pos pins s σ H _ I h) fun us s1 ⟨vs, H1, I1, r1, a, xs, ev, hq, q1⟩ => ?_) hs hpl (by rfl) (by rfl)
  subst ev
  obtain ⟨u, rfl, ru⟩ := vals1 r1
  obtain rfl : u = Value.ref a := ru
  show wpAny _ _ (evalAll ((do let v ← eval ek X.env; standAt pos; pure v) :: [])) _ _ s1
  refine wpAny_evalAll_cons (wpAny_bind (thn (hk.run pins s1 σ H1 _ I1 q1) fun v s2 ⟨y, H2, I2, ry, k0, ey, hk0, hk1, hq2, q2⟩ => wpAny_bind (wpAny_standAt (wpAny_pure (wpAny_evalAll_nil ?_)))))
  subst ey
  obtain ⟨t, rfl⟩ := ry
  obtain ⟨its, rv, p', hz⟩ := I2.list hq2
  show wpAny _ _ (call (.type "enumerate") [.ref a] [(Str.ofString "start", .int k0 t)]) _ _ s2
  refine enum_begins_start (begins_list a its.toArray) p'.isList (by omega) (by omega) fun h' he hit hsz hkk => wpAny_pyIter_enum he ?_
  have I3 : Inv X pins σ H2 { s2 with heap := h' } := I2.kept (t' := s2.toks) hkk
  refine ⟨s2.heap.objs.size + 1, [s2.heap.objs.size + 1, s2.heap.objs.size], _, _, H2, rfl, I3, turn_enumK a (s2.heap.objs.size + 1) s2.heap.objs.size k0, ⟨⟨.none, by simpa using he⟩, ⟨_, hit, rfl, rfl⟩, Nat.succ_ne_self _⟩, fun b hb => ?_, q2⟩
  have hle : s2.heap.objs.size ≤ b := by
    have e' : b = s2.heap.objs.size + 1 ∨ b = s2.heap.objs.size := by simpa using hb
    rcases e' with z | z
    · rw [z]; exact Nat.le_add_right _ _
    · rw [z]; exact Nat.le_refl _
  exact I2.fpOk hle (I2.hok.fresh hle)
def iEnumT (K : PySem.W.Frag) (ta : TA) : TI := fun σ H R => ta σ H fun vs H1 => ∃ a xs, vs = [.ref a] ∧ SqT K H1 a xs ∧ R (IteT K a) H1
theorem pi_enumT {e : Expr} {ta : TA} {p pos tpos : Pos} {elts : List Expr} {kk : Nat} (hg : Gl X "enumerate") (hm : X.mg "enumerate" = none) (ha : PA X [e] ta) (hs : starEach [e] X.env = [(false, eval e X.env)] := by rfl) :
    PI X (.Tuple elts kk tpos) (.Call (.Name "enumerate" p) [e] [] pos) (iEnumT X.K ta) := by
  refine ⟨fun pins s σ H R I h => ?_⟩
  refine Call_ (ld_blt I hg hm boot_enumerate (PyProof.Rows.callWith_type1 (thn (ha.run pos pins s σ H _ I h) fun us s1 ⟨vs, H1, I1, r1, q1⟩ => ?_) hs rfl))
  obtain ⟨a, xs, rfl, hq, q⟩ := q1
  obtain ⟨u, rfl, ru⟩ := vals1 r1
  obtain rfl : u = Value.ref a := ru
  obtain ⟨its, rv, p', hz⟩ := I1.tuple hq
  refine call_enumerate_tuple (show s1.heap.IsTuple a its.toArray from p') fun h' he hit hsz hk => wpAny_pyIter_enum he ?_
  have I2 : Inv X pins σ H1 { s1 with heap := h' } := I1.kept (t' := s1.toks) hk
  refine ⟨s1.heap.objs.size + 1, [s1.heap.objs.size + 1, s1.heap.objs.size], _, _, H1, rfl, I2, turn_enumT a (s1.heap.objs.size + 1) s1.heap.objs.size, ⟨⟨.none, he⟩, hit, Nat.succ_ne_self _⟩, fun b hb => ?_, q⟩
  have hle : s1.heap.objs.size ≤ b := by
    have e' : b = s1.heap.objs.size + 1 ∨ b = s1.heap.objs.size := by simpa using hb
    rcases e' with z | z
    · rw [z]; exact Nat.le_add_right _ _
    · rw [z]; exact Nat.le_refl _
  exact I1.fpOk hle (I1.hok.fresh hle)
end
end Vf

set_option maxRecDepth 100000
set_option maxHeartbeats 4000000
namespace Vf
open PySem PySem.Spec PyProof.Rows L2 SX LamX
/-! ### {k: v}, k a tuple -/
section
variable {X : Cx}
theorem d_dictSetT {pins : List (Addr × Obj)} {σ : L2.St} {H H' : Hp} {s : Shared} {A : Around} {E : Value → Shared → Prop} {a : Addr} {y v : V} {u r : Value} {Q : Unit → Shared → Prop} (hu : A.units < cLine) (I : Inv X pins σ H s)
    (g : ∃ (kvs : List (List Key × V)) (k : List Key) (b : Addr), H a = some (.dT kvs) ∧ y = .ref b ∧ H b = some (.tup (k.map kV)) ∧ kvs.length < sizeLine ∧ H' = upd H a (.dT (putK kvs k v))) (ry : RelV y u) (rv : RelV v r) (h : ∀ s', Inv X pins σ H' s' → Q () s') :
    wpAny (model X.prog X.w) A (dictSet a u r) Q E s := by
  obtain ⟨kvs, k, b, e, ey, eb, l, eH⟩ := g
  subst ey eH
  cases (show u = Value.ref b from ry)
  obtain ⟨z, hd, xs, rel, dd⟩ := dt_of I.hok e
  have hz : xs.length ≤ sizeLine := by rw [← Paired.length rel]; exact z
  have hl : (putK kvs k v).length ≤ sizeLine := by have := length_putK kvs k v; omega
  refine wpAny_dictSet_heap (hsz := hz) (knd := tupleKind (mixKind X.prog X.w)) hu (key_of I.hok eb) dd fun h' dd' hs => h _ ?_
  obtain ⟨q, es, ep, hq, h2, h3, h4, _, h5⟩ := dd'
  refine d_write I (by rw [e]; exact True.intro) hs ⟨q, hq⟩ ⟨hl, hd, _, (rel.put k eb rv).keeps fun c ys ec => ?_, q, es, ep, hq, h2, h3, h4, h5⟩
  rw [upd_ne (ne_of ec e (fun z => nomatch z))]
  exact ec
def tDispT1 (tk tv : TE) : TE := fun σ H Q => ∀ p, H p = none → tk σ (upd H p (.dT [])) fun x H1 => tv σ H1 fun y H2 => ∃ (k : List Key) (b : Addr), H2 p = some (.dT []) ∧ x = .ref b ∧ H2 b = some (.tup (k.map kV)) ∧ Q (.ref p) (upd H2 p (.dT [(k, y)]))
theorem pe_dispT1 {pos : Pos} {k v : Expr} {tk tv : TE} (hu : X.A.units < cLine) (hk : PE X k tk) (hv : PE X v tv) : PE X (.Dict [some k] [v] pos) (tDispT1 tk tv) := by
  refine ⟨fun pins s σ H Q I q => ?_⟩
  have hn := I.hok.fresh (Nat.le_refl s.heap.objs.size)
  have I1 := I.laid (a := s.heap.objs.size) (o := .dT []) (h' := s.heap.push { cls := .type "dict", data := .dict #[] }) (t' := s.toks) (fun _ _ q => Heap.get?_push_of_some _ q) (Nat.le_refl _) (dt_empty s.heap I.big)
  refine wpAny_Dict_any (by rfl) (by rfl) (by simp) (by show 1 ≤ 15; decide) (thn ((pps_cons hk hv (pps_nil (X := X) (pos := pos))).run pins _ σ _ (fun ps H2 => ∃ x y, ps = [(x, y)] ∧ ∃ (k : List Key) (b : Addr), H2 s.heap.objs.size = some (.dT []) ∧ x = .ref b ∧ H2 b = some (.tup (k.map kV)) ∧ Q (.ref s.heap.objs.size) (upd H2 s.heap.objs.size (.dT [(k, y)]))) I1 ?_) fun ws s2 ⟨ps, H2, I2, rel, x, y, eps, kk, b, e, ex, eb, q2⟩ => ?_)
  · have q' := q _ hn
    have mono : ∀ {t : TE} {σ : L2.St} {H : Hp} {Q Q' : VK}, t σ H Q → Q = Q' → t σ H Q' := fun h e => e ▸ h
    show tk σ _ fun x H1 => tv σ H1 fun y H2 => _
    refine mono q' ?_
    funext x H1
    refine congrArg _ ?_
    funext y H2
    refine propext ⟨fun ⟨k, b, h⟩ => ⟨x, y, rfl, k, b, h⟩, fun ⟨x', y', e, k, b, h⟩ => ?_⟩
    cases e
    exact ⟨k, b, h⟩
  · subst eps
    cases rel with
    | cons h t =>
      cases t
      rename_i pr
      obtain ⟨u, r⟩ := pr
      unfold storeAll
      rw [List.forIn_cons]
      refine wpAny_bind (wpAny_bind (d_dictSetT (H' := upd H2 s.heap.objs.size (.dT (putK [] kk y))) (by show X.A.units < cLine; exact hu) I2 ⟨[], kk, b, e, ex, eb, by decide, rfl⟩ h.1 h.2 fun s3 I3 => wpAny_pure ?_))
      show wpAny _ _ (forIn [] PUnit.unit _) _ _ s3
      rw [List.forIn_nil]
      exact wpAny_pure ⟨.ref s.heap.objs.size, _, I3, rfl, q2⟩
end
end Vf

set_option maxRecDepth 100000
set_option maxHeartbeats 4000000
namespace Vf
open PySem PySem.Spec PyProof.Rows L2 SX LamX
/-! ### len(o) by an own __len__ -/
structure OwnM (K : PySem.W.Frag) (C : Addr) (m : Str) (f : Addr) : Prop where
  hs : PySem.W.findIn K (.ref C) m = some (some (.ref f))
  hf : PySem.W.isFn K (.ref f) = true
section
variable {X : Cx} {C f : Addr} {fd : FuncData} {ps : List Str} {k j : Nat} {sp : Sp}
def rLenO (C : Addr) (sp : Sp) : List V → Hp → VK → Prop := fun xs H Q => ∃ (a dx : Addr) (fs : List (Str × V)), xs = [.ref a] ∧ H a = some (.ins C dx fs) ∧ sp [.ref a] H (fun v H' => ∃ n : Nat, v = .int (n : Int) ∧ n < 1000000 ∧ Q (.int (n : Int)) H') (fun _ _ _ => False)
theorem call_lenO (O : OwnM X.K C "__len__" f) (F : FnOk X.prog X.w X.K X.mg X.base C8.CX0 k f fd ps sp) (hb : Binds X.K fd ps []) (hr : Room j X.A) (hj : k + 1 ≤ j) : CallR X (.builtin "len") (rLenO C sp) := by
  intro pins s σ H xs us Q I r h
  obtain ⟨a, dx, fs, rfl, ha, hsp⟩ := h
  obtain ⟨u, rfl, ru⟩ := vals1 r
  cases ru
  obtain ⟨mA, J, _⟩ := ins_get I.hok ha
  obtain ⟨od, J, _⟩ := J.look
  have e0 : Env0 X.prog X.w X.K X.mg X.base X.A.in1 X.stack s H := by
    have e := I.env0
    exact ⟨e.frames, e.mod, e.bs, e.bsz, e.funs, e.frf, e.hok, e.bare⟩
  have hl := F.len _ _ _ _ hsp
  have run := F.run X.A.in1 X.stack s H ⟨[.ref a], []⟩ [.ref a] [.ref a] _ (fun _ _ _ => False) ((hr.mono hj).in1) e0 (by
    have := hb s [.ref a] I.kIn (by simpa using hl)
    simpa using this) (.cons rfl .nil) hsp
  refine Calls.call_function_entry kind_len plain_len entry_len (args_len1 _) ?_
  unfold Builtin.«len»
  refine wpAny_bind (m := oneArg "len" _) (wpAny_pure ?_)
  refine wpAny_bind (m := callSpecial? (.ref a) (Str.ofString "__len__")) (PySem.W.special_fn (name := "__len__") (args := []) I.kIn J O.hs (beq_iff_eq.mp O.hf) (wpAny_call (codeAny_mono run fun z s' hz => ?_)))
  cases z with
  | error e => exact pass0 _ _ _ _ _ _ I hz
  | ok fl =>
    cases fl with
    | ret u =>
      obtain ⟨v, H', I1, rv, n, rfl, hn, q⟩ := I.after hz
      obtain ⟨t, rfl⟩ := rv
      refine wpAny_bind (wpAny_holding (wpAny_pure ?_))
      refine wpAny_bind (wpAny_letGo ?_)
      show wpAny _ _ (if (n : Int) < 0 then _ else _) _ _ _
      rw [if_neg (by omega)]
      show wpAny _ _ (if (n : Int) ≥ 2 ^ 63 then _ else _) _ _ _
      rw [if_neg (by omega)]
      refine wpAny_bind (wpAny_mkInt (wpAny_pure ⟨_, rfl, .int (n : Int), H', I1.tok _, ⟨_, rfl⟩, q⟩))
    | next => exact False.elim hz
    | brk => exact False.elim hz
    | cont => exact False.elim hz
end
/-! ### for x in o by an own __iter__ that returns iter(self.f), a tuple -/
/-- at it an iterator over the tuple at l, the next place is i -/
def tiObj (l : Addr) (i : Nat) : Obj := { cls := .type "tuple_iterator", data := .fields #[.ref l, .int (i : Int) 0] }
def ItT (l it : Addr) (i : Nat) : HO := .ext fun h => h.get? it = some (tiObj l i)
theorem itT_ok {P : Program} {w : World} {H : Hp} {h : Heap} {l it : Addr} {i : Nat} (e : h.get? it = some (tiObj l i)) : ObjOk P w H h it (ItT l it i) := ⟨e, ⟨_, e⟩, fun h1 h2 q k => k _ q⟩
section
variable {X : Cx}
def rIterT (K : PySem.W.Frag) (n : Nat) : List V → Hp → VK → Prop := fun xs H Q => ∃ (l : Addr) (zs : List V), xs = [.ref l] ∧ SqT K H l zs ∧ ∀ it, H it = none → n ≤ it → Q (.ref it) (upd H it (ItT l it 0))
theorem call_iterT : CallR X (.builtin "iter") (rIterT X.K X.s_0.heap.objs.size) := by
  intro pins s σ H xs us Q I r h
  obtain ⟨l, zs, rfl, hq, q⟩ := h
  obtain ⟨u, rfl, ru⟩ := vals1 r
  cases ru
  obtain ⟨its, rv, pl, hz⟩ := I.tuple hq
  refine Calls.call_function_entry (by decide +kernel) (by decide +kernel) PySem.W.kdk_entry_iter (PySem.W.kdk_args_iter _) ?_
  unfold Builtin.«iter»
  refine wpAny_bind (m := someArgs "iter" 1 2 _) (wpAny_of_eq (a := [Value.ref l]) (by first | rfl | kernel_rfl!) ?_)
  show wpAny _ _ (pyIter (.ref l) >>= _) _ _ _
  refine wpAny_bind (wpAny_pyIter_tuple (show s.heap.IsTuple l its.toArray from pl) ?_)
  refine wpAny_pure ⟨_, rfl, ?_⟩
  exact ⟨.ref s.heap.objs.size, _, I.laid (t' := s.toks) (fun b u e => Heap.get?_push_of_some _ e) (Nat.le_refl _) (itT_ok (Heap.get?_push_size _ rfl)), rfl, q _ (I.hok.fresh (Nat.le_refl _)) I.sz⟩
end
/-- a def with a promise that knows how large the heap was when it was called -/
structure FnN (P : Program) (w : World) (K : PySem.W.Frag) (mg : Str → Option Value) (base : Heap) (k : Nat) (f : Addr) (fd : FuncData) (ps : List Str) (sp : Nat → Sp) : Prop where
  len : ∀ n vs H Q E, sp n vs H Q E → vs.length = ps.length
  run : ∀ (A : Around) (outer : List Env) (s : Shared) (H : Hp) (args : Args) (us : List Value) (vs : List V) (Q : VK), Room k A → Env0 P w K mg base A outer s H → BindsTo s fd args (ps.zip us) → Vals vs us → sp s.heap.objs.size vs H Q noE →
    codeAny (model P w) A (.call (.ref f) args) (CR C8.CX0 outer P w H s Q noE) s
theorem fnN_of {P : Program} {w : World} {K : PySem.W.Frag} {mg : Str → Option Value} {base : Heap} {x q : Str} {st : Stmt} {f : Addr} {fd : FuncData} {N ps : List Str} {k : Nat} {sp : Nat → Sp} (F : C8.Fun K x q st f fd)
    (S : FnScope N ps (C8.fnScope st)) (len : ∀ n vs H Q E, sp n vs H Q E → vs.length = ps.length)
    (hb : ∀ (c : Value) (A : Around) (out : List Env) (s : Shared) (H : Hp) (vs : List V) (Q : VK), Room k (A.deeper (envOfC q (C8.fnScope st) s.heap.objs.size f c)) → sp s.heap.objs.size vs H Q noE →
      ∃ t, PSs (cxOf C8.CX0 P w K mg base N q (C8.fnScope st) f c A out s H noE).nox (C8.fnBody st) t ∧ t { nx := fun _ h => Q .non h, rt := Q } (start N vs) H) :
    FnN P w K mg base (k + 1) f fd ps sp := by
  obtain ⟨oc, od, dV, kV, dc, pm, an, c, ct, sl, rfl, lk, hc⟩ := F.ex
  refine ⟨len, fun A out s H g us vs Q hr e0 hbind r hsp => ?_⟩
  have hn := len _ _ _ _ _ hsp
  have KX : K.In s.heap := e0.mod.kin.keeps fun _ _ z => keeps_of e0 z
  have lim := e0.mod.nolimit.keeps (h' := s.heap) fun _ _ z => keeps_of e0 z
  refine codeAny_call_function hr.depth (KX _ _ lk) rfl S.co S.gen rfl (PySem.W.codeRec_of KX hc) (hbind _ _ _ _ ?_)
  refine wpAny_newFunctionEnv_cells S.kind (fun y hy => ?_) fun env he s1 x1 => ?_
  · rcases S.par y.1 (List.of_mem_zip hy).1 with z | z
    · exact Or.inl z
    · exact Or.inr ⟨z, PySem.W.cellsFrom_some _ _ _ (Or.inl z)⟩
  · subst he
    refine ⟨lim.keeps x1.toInCall.keep, codeAny_func ?_⟩
    obtain ⟨t, ht, hq⟩ := hb c A out s H vs Q (hr.deeper _) hsp
    refine wpAny_mono (ht.nox.run [] s1 (start N vs) H _ (inv_start S hr.hd e0 hn r x1) hq) (fun fl s' hs => ?_) (fun _ _ hs => hs)
    rcases fl with u | _ | _ | _
    all_goals first
      | exact (by obtain ⟨v, σ', H', J, rv, z⟩ := hs; exact ⟨v, H', J.os, J.bare, J.base, J.hok, rv, z⟩)
      | exact (by obtain ⟨σ', H', J, z⟩ := hs; exact ⟨V.non, H', J.os, J.bare, J.base, J.hok, rfl, z⟩)
      | exact (by obtain ⟨_, _, _, z⟩ := hs; exact z.elim)
def spIterT (K : PySem.W.Frag) (C : Addr) (g : Str) : Nat → Sp := fun n vs H Q _ => ∃ (a dx t : Addr) (fs : List (Str × V)) (xs : List V), vs = [.ref a] ∧ H a = some (.ins C dx fs) ∧ fs.lookup g = some (.ref t) ∧ SqT K H t xs ∧ ∀ it, H it = none → n ≤ it → Q (.ref it) (upd H it (ItT t it 0))
section
variable {X : Cx} {C f : Addr} {fd : FuncData} {ps : List Str} {k j : Nat} {g : Str} {tg : Expr}
/-- for x in o -/
def iOwnT (K : PySem.W.Frag) (C : Addr) (g : Str) (te : TE) : TI := fun σ H R => te σ H fun v H1 => ∃ (a dx t : Addr) (fs : List (Str × V)) (xs : List V), v = .ref a ∧ H1 a = some (.ins C dx fs) ∧ fs.lookup g = some (.ref t) ∧ SqT K H1 t xs ∧ R (Itt K t) H1
theorem pi_ownT {e : Expr} {te : TE} (he : PE X e te) (O : OwnM X.K C "__iter__" f) (F : FnN X.prog X.w X.K X.mg X.base k f fd ps (spIterT X.K C g)) (hb : Binds X.K fd ps []) (hr : Room j X.A) (hj : k ≤ j) : PI X tg e (iOwnT X.K C g te) := by
  refine ⟨fun pins s σ H R I h => ?_⟩
  refine thn (he.run pins s σ H _ I h) fun v s1 ⟨x, H1, I1, r1, a, dx, t, fs, xs, ex, ha, hg, hq, q⟩ => ?_
  subst ex
  cases r1
  obtain ⟨mA, J, _⟩ := ins_get I1.hok ha
  obtain ⟨od, J, _⟩ := J.look
  obtain ⟨m, hF⟩ := I1.fr
  have hsp : spIterT X.K C g s1.heap.objs.size [.ref a] H1 (fun v H' => ∃ it, v = .ref it ∧ H1 it = none ∧ s1.heap.objs.size ≤ it ∧ H' = upd H1 it (ItT t it 0)) noE := ⟨a, dx, t, fs, xs, rfl, ha, hg, hq, fun it h1 h2 => ⟨it, rfl, h1, h2, rfl⟩⟩
  have hl := F.len _ _ _ _ _ hsp
  refine PySem.W.owit_iter hF I1.ok.mod.kin J O.hs O.hf ?_
  have run := F.run X.A X.stack s1 H1 ⟨[.ref a], []⟩ [.ref a] [.ref a] _ (hr.mono hj) I1.env0 (by
    have := hb s1 [.ref a] I1.kIn (by simpa using hl)
    simpa using this) (.cons rfl .nil) hsp
  refine wpAny_call (codeAny_mono run fun z s' hz => ?_)
  cases z with
  | error e => exact pass0 _ _ _ _ _ _ I1 hz
  | ok fl =>
    cases fl with
    | ret u =>
      obtain ⟨v, H', I2, rv, it, rfl, hn, hle, eH⟩ := I1.after hz
      subst eH
      obtain rfl : u = Value.ref it := rv
      have ho : s'.heap.get? it = some (tiObj t 0) := (I2.hok it _ upd_same).1
      have hit : s'.heap.IsTupleIter it t 0 := ⟨_, ho, rfl, rfl⟩
      unfold PySem.W.OwitIt
      refine wpAny_specialOf (name := Str.ofString "__next__") hit.typeIs PySem.F.slot_tuple_iterator_next.lookup ?_
      have e2 : upd H1 it (ItT t it 0) it = some (.ext fun h => h.get? it = some (tiObj t 0)) := upd_same
      have hy : X.s_0.heap.objs.size ≤ it := Nat.le_trans I1.sz hle
      have I3 := ItX.inv_drop I2 e2
      have fp := ItX.inv_fp I2 e2 hy
      rw [ItX.dropH_upd hn] at I3 fp
      refine ⟨it, [it], _, _, H1, rfl, I3, turn_tuple t it, hit, fun b hb => ?_, q⟩
      have e : b = it := by simpa using hb
      rw [e]
      exact fp
    | next => exact False.elim hz
    | brk => exact False.elim hz
    | cont => exact False.elim hz
end
end Vf

set_option maxRecDepth 100000
set_option maxHeartbeats 4000000
namespace Vf
open PySem PySem.Spec PyProof.Rows L2 SX LamX
/-! ### C(e, ..) whose __init__ may raise -/
structure MakX (P : Program) (w : World) (K : PySem.W.Frag) (mg : Str → Option Value) (base : Heap) (k : Nat) (x : Str) (C : Addr) (sp : Sp) : Prop where
  ex : ∃ (f : Addr) (fd : FuncData) (ps : List Str), Mk K C f ∧ FnOk P w K mg base (L2.CX P w) k f fd ps sp ∧ mg x = some (.ref C) ∧ Binds K fd ps []
theorem makX {P : Program} {w : World} {K : PySem.W.Frag} {mg : Str → Option Value} {base : Heap} {x qual : Str} {C : Addr} {st : Stmt} {f : Addr} {fd : FuncData} {N ps : List Str} {k : Nat} {sp : Sp} (M : Mk K C f) (hm : mg x = some (.ref C)) (F : C8.Fun K "__init__" qual st f fd) (b : Binds K fd ps []) (S : FnScope N ps (C8.fnScope st)) (len : ∀ vs H Q E, sp vs H Q E → vs.length = ps.length)
    (hb : ∀ (c : Value) (A : Around) (outer : List Env) (s : Shared) (H : Hp) (vs : List V) (Q : VK) (E : XK), Room k (A.deeper (envOfC qual (C8.fnScope st) s.heap.objs.size f c)) → sp vs H Q E →
      ∃ t, PSs (cxOf (L2.CX P w) P w K mg base N qual (C8.fnScope st) f c A outer s H E) (C8.fnBody st) t ∧ t { nx := fun _ h => Q .non h, rt := Q } (start N vs) H) : MakX P w K mg base (k + 1) x C sp :=
  ⟨f, fd, ps, M, fnX F S len hb, hm, b⟩
section
variable {X : Cx} {k j : Nat} {x : Str} {C f : Addr} {fd : FuncData} {ps : List Str} {sp : Sp} {p pos : Pos} {e : Expr} {es : List Expr} {t : TA} {W : WX} {CX : CXT} {E : XK}
theorem run_makeS {pins : List (Addr × Obj)} {σ : L2.St} {H : Hp} {s : Shared} {Q : VK} {us : List Value} {vs : List V} (M : Mk X.K C f) (F : FnOk X.prog X.w X.K X.mg X.base CX k f fd ps sp) (hr : Room (k + 1) X.A) (hb : Binds X.K fd ps [])
    (hx : PassesAt CX X σ E) (I : Inv X pins σ H s) (r : Vals vs us)
    (h : ∀ x dx, H x = none → H dx = none → dx ≠ x → sp (.ref x :: vs) (upd (upd H dx (.own x)) x (.ins C dx [])) (fun v H2 => v = .non ∧ Q (.ref x) H2) E) :
    wpAny (model X.prog X.w) X.A (call (.ref C) us) (EP X pins σ Q) X.xe s := by
  have hq := h (s.heap.objs.size + 1) s.heap.objs.size (I.hok.fresh (Nat.le_succ _)) (I.hok.fresh (Nat.le_refl _)) (Nat.ne_of_lt (Nat.lt_succ_self _))
  have I2 := Inv.made (C := C) I
  have r2 : Vals (V.ref (s.heap.objs.size + 1) :: vs) (Value.ref (s.heap.objs.size + 1) :: us) := .cons rfl r
  have hl : (Value.ref (s.heap.objs.size + 1) :: us).length = ps.length := by
    have e := r2.length
    rw [F.len _ _ _ _ hq] at e
    exact e.symm
  refine wpAny_call (make_map (f := f) I.kIn M.makes M.init (beq_iff_eq.mp M.fn) (codeAny_mono (F.run _ X.stack _ _ ⟨Value.ref (s.heap.objs.size + 1) :: us, []⟩ (Value.ref (s.heap.objs.size + 1) :: us) _ _ E (hr.make C us [])
    (I2.env0.make C us []) (by
      have := hb ⟨_, _, _, _, _⟩ (Value.ref (s.heap.objs.size + 1) :: us) I2.kIn (by rw [List.append_nil]; exact hl)
      simpa using this) r2 hq) fun r s' hq' => ?_))
  cases r with
  | error e => exact hx pins _ _ e s' I2 hq'
  | ok fl =>
    cases fl with
    | ret u =>
      obtain ⟨v, H', I3, rv, ev, q3⟩ := I2.after hq'
      subst ev
      exact ⟨rv, ⟨V.ref (s.heap.objs.size + 1), H', I3, rfl, q3⟩⟩
    | next => exact False.elim hq'
    | brk => exact False.elim hq'
    | cont => exact False.elim hq'
def tMakeS (C : Addr) (sp : Sp) (E : L2.St → XK) (t : TA) : TE := fun σ H Q => t σ H fun vs H1 => ∀ x dx, H1 x = none → H1 dx = none → dx ≠ x → sp (.ref x :: vs) (upd (upd H1 dx (.own x)) x (.ins C dx [])) (fun v H2 => v = .non ∧ Q (.ref x) H2) (E σ)
theorem pe_mkX (c : MakX X.prog X.w X.K X.mg X.base k x C sp) (hr : Room j X.A) (hk : k + 1 ≤ j) (hg : Gl X x) (tk : Takes X W) (ha : PA X (e :: es) t)
    (hdb : (x == ("__debug__" : Str)) = false := by decide) (he : starEach (e :: es) X.env = (false, eval e X.env) :: starEach es X.env := by rfl) (hpl : (backTo pos (starEach es X.env)).any (·.1) = false := by rfl) :
    PE X (.Call (.Name x p) (e :: es) [] pos) (tMakeS C sp (WE W) t) := by
  obtain ⟨f, fd, ps, M, F, hm, b⟩ := c.ex
  refine ⟨fun pins s σ H Q I h => ?_⟩
  refine wpAny_Call_Name_kw (ld_glob I hg hm ?_ hdb)
  refine PySem.W.callWith_K (h₀ := X.base) I.ok.mod.kin M.kp (thn (ha.run pos pins s σ H _ I h) fun us s1 ⟨vs, H1, I1, r, q⟩ => ⟨I1.kIn, ?_⟩) he hpl
  exact run_makeS M F (hr.mono hk) b (passAt tk σ) I1 r q
theorem pe_mkX0 (c : MakX X.prog X.w X.K X.mg X.base k x C sp) (hr : Room j X.A) (hk : k + 1 ≤ j) (hg : Gl X x) (ha : PA X (e :: es) t)
    (hdb : (x == ("__debug__" : Str)) = false := by decide) (he : starEach (e :: es) X.env = (false, eval e X.env) :: starEach es X.env := by rfl) (hpl : (backTo pos (starEach es X.env)).any (·.1) = false := by rfl) :
    PE X (.Call (.Name x p) (e :: es) [] pos) (tMake C sp [] E0 t) := by
  obtain ⟨f, fd, ps, M, F, hm, b⟩ := c.ex
  exact pe_make M F (hr.mono hk) hg hm b .nil passL ha hdb he hpl
end
end Vf

set_option maxRecDepth 100000
set_option maxHeartbeats 4000000
namespace Vf
open PySem PySem.Spec PyProof.Rows L2 SX LamX
/-! ### a dict with tuples as keys, tracked or written ones, whatever its values -/
abbrev Ent : Type := List Key × Addr × Value
def DX (P : Program) (w : World) (a : Addr) (xs : List Ent) : HO := .ext fun h => (a == sysModules) = false ∧ ∃ o es ep, h.get? a = some o ∧ o.ExactDict ∧ o.data = .dict es ep ∧ es.toList = xs.map (entryOfKey (tupleKind (mixKind P w))) ∧ (xs.map (·.1)).Nodup
def EntsAt (K : PySem.W.Frag) (H : Hp) (xs : List Ent) : Prop := ∀ q ∈ xs, SqT K H q.2.1 (q.1.map kV)
theorem dx_ok {P : Program} {w : World} {H : Hp} {h : Heap} {a : Addr} {xs : List Ent} (n : (a == sysModules) = false) (e : ∃ o es ep, h.get? a = some o ∧ o.ExactDict ∧ o.data = .dict es ep ∧ es.toList = xs.map (entryOfKey (tupleKind (mixKind P w))) ∧ (xs.map (·.1)).Nodup) : ObjOk P w H h a (DX P w a xs) := by
  refine ⟨⟨n, e⟩, ?_, fun h1 h2 q k => ?_⟩
  · obtain ⟨o, _, _, ho, _⟩ := e; exact ⟨o, ho⟩
  · obtain ⟨n, o, es, ep, ho, r⟩ := q
    exact ⟨n, o, es, ep, k o ho, r⟩
theorem key_seq {X : Cx} {pins : List (Addr × Obj)} {σ : L2.St} {H : Hp} {s : Shared} {b : Addr} {ks : List Key} (I : Inv X pins σ H s) (e : SqT X.K H b (ks.map kV)) : (tupleKind (mixKind X.prog X.w)).is s.heap ks b := by
  obtain ⟨its, r, p, hz⟩ := I.tuple e
  obtain ⟨o, h1, h2, n, h3⟩ := (show s.heap.IsTuple b its.toArray from p)
  exact ⟨o, its.toArray, n, h1, h2, h3, by simpa using items_are r⟩
section
variable {X : Cx}
theorem dx_dict {pins : List (Addr × Obj)} {σ : L2.St} {H : Hp} {s : Shared} {a : Addr} {xs : List Ent} (I : Inv X pins σ H s) (h : H a = some (DX X.prog X.w a xs)) (hx : EntsAt X.K H xs) : (a == sysModules) = false ∧ s.heap.DictOfH (tupleKind (mixKind X.prog X.w)) a xs := by
  obtain ⟨⟨n, o, es, ep, h1, h2, h3, h4, h5⟩, _⟩ := (show ObjOk X.prog X.w H s.heap a (DX X.prog X.w a xs) from I.hok a _ h)
  exact ⟨n, o, es, ep, h1, h2, h3, h4, fun x hx' => key_seq I (hx x hx'), h5⟩
theorem ents_stored {K : PySem.W.Frag} {H : Hp} {xs : List Ent} {k : List Key} {b : Addr} {u : Value} (h : EntsAt K H xs) (hb : SqT K H b (k.map kV)) : EntsAt K H (storedH xs k b u) := fun q hq => by
  rcases mem_storedH_key hq with ⟨y, hy, e1, e2⟩ | ⟨e1, e2⟩
  · rw [e1, e2]; exact h y hy
  · rw [e1, e2]; exact hb
/-- no code object stands there -/
def NoCode (H : Hp) (a : Addr) : Prop := ∀ c q, H c = some (CodeO c q) → c ≠ a
theorem dx_nocode {pins : List (Addr × Obj)} {σ : L2.St} {H : Hp} {s : Shared} {a : Addr} {xs : List Ent} (I : Inv X pins σ H s) (h : H a = some (DX X.prog X.w a xs)) : NoCode H a := fun c q e z => by
  obtain ⟨⟨_, o, es, ep, h1, _, h3, _⟩, _⟩ := (show ObjOk X.prog X.w H s.heap a (DX X.prog X.w a xs) from I.hok a _ h)
  obtain ⟨⟨oc, vs, t, g1, g2, _⟩, _⟩ := (show ObjOk X.prog X.w H s.heap c (CodeO c q) from I.hok c _ e)
  rw [z, h1] at g1
  cases g1
  rw [h3] at g2
  cases g2
/-- {k: v} -/
def tDispX (P : Program) (w : World) (K : PySem.W.Frag) (tk tv : TE) : TE := fun σ H Q => ∀ p, H p = none → tk σ (upd H p (DX P w p [])) fun x H1 => tv σ H1 fun y H2 => ∃ (k : List Key) (b : Addr), H2 p = some (DX P w p []) ∧ x = .ref b ∧ SqT K H2 b (k.map kV) ∧ ∀ u : Value, NoCode H2 p → Q (.ref p) (upd H2 p (DX P w p [(k, b, u)]))
theorem pe_dispX {pos : Pos} {k v : Expr} {tk tv : TE} (hu : X.A.units < cLine) (hk : PE X k tk) (hv : PE X v tv) : PE X (.Dict [some k] [v] pos) (tDispX X.prog X.w X.K tk tv) := by
  refine ⟨fun pins s σ H Q I q => ?_⟩
  have hn := I.hok.fresh (Nat.le_refl s.heap.objs.size)
  have big : (s.heap.objs.size == sysModules) = false := beq_eq_false_iff_ne.mpr (Ne.symm (Nat.ne_of_lt I.big))
  have I1 : Inv X pins σ (upd H s.heap.objs.size (DX X.prog X.w s.heap.objs.size [])) { s with heap := s.heap.push { cls := .type "dict", data := .dict #[] } } := I.laid (a := s.heap.objs.size) (o := DX X.prog X.w s.heap.objs.size []) (h' := s.heap.push { cls := .type "dict", data := .dict #[] }) (t' := s.toks) (fun _ _ q => Heap.get?_push_of_some _ q) (Nat.le_refl _) (dx_ok big ⟨_, #[], 0, Heap.get?_push_size _ rfl, ⟨rfl, rfl, rfl⟩, rfl, rfl, List.nodup_nil⟩)
  refine wpAny_Dict_any (by rfl) (by rfl) (by simp) (by show 1 ≤ 15; decide) (thn ((pps_cons hk hv (pps_nil (X := X) (pos := pos))).run pins _ σ _ (fun ps H2 => ∃ x y, ps = [(x, y)] ∧ ∃ (k : List Key) (b : Addr), H2 s.heap.objs.size = some (DX X.prog X.w s.heap.objs.size []) ∧ x = .ref b ∧ SqT X.K H2 b (k.map kV) ∧ ∀ u : Value, NoCode H2 s.heap.objs.size → Q (.ref s.heap.objs.size) (upd H2 s.heap.objs.size (DX X.prog X.w s.heap.objs.size [(k, b, u)]))) I1 ?_) fun ws s2 ⟨ps, H2, I2, rel, x, y, eps, kk, b, e, ex, eb, q2⟩ => ?_)
  · have q' := q _ hn
    have mono : ∀ {t : TE} {σ : L2.St} {H : Hp} {Q Q' : VK}, t σ H Q → Q = Q' → t σ H Q' := fun h e => e ▸ h
    show tk σ _ fun x H1 => tv σ H1 fun y H2 => _
    refine mono q' ?_
    funext x H1
    refine congrArg _ ?_
    funext y H2
    refine propext ⟨fun ⟨k, b, h⟩ => ⟨x, y, rfl, k, b, h⟩, fun ⟨x', y', e, k, b, h⟩ => ?_⟩
    cases e
    exact ⟨k, b, h⟩
  · subst eps
    subst ex
    obtain ⟨⟨u, r⟩, rfl, h1, h2⟩ : ∃ p : Value × Value, ws = [p] ∧ RelV (.ref b) p.1 ∧ RelV y p.2 := by
      cases rel with
      | cons h t =>
        cases t
        exact ⟨_, rfl, h.1, h.2⟩
    obtain rfl : u = Value.ref b := h1
    obtain ⟨hd, dd⟩ := dx_dict I2 e (fun _ z => nomatch z)
    unfold storeAll
    rw [List.forIn_cons]
    refine wpAny_bind (wpAny_bind (wpAny_dictSet_heap (hsz := Nat.zero_le _) (knd := tupleKind (mixKind X.prog X.w)) (by show X.A.units < cLine; exact hu) (key_seq I2 eb) dd fun h' dd' hs => wpAny_pure ?_))
    show wpAny _ _ (forIn [] PUnit.unit _) _ _ _
    rw [List.forIn_nil]
    refine wpAny_pure ?_
    obtain ⟨q3, es, ep, hq, k2, k3, k4, _, k5⟩ := dd'
    exact ⟨.ref s.heap.objs.size, _, d_write I2 (by rw [e]; exact True.intro) hs ⟨q3, hq⟩ (dx_ok (xs := [(kk, b, r)]) hd ⟨q3, es, ep, hq, k2, k3, k4, k5⟩), rfl, q2 r (dx_nocode I2 e)⟩
/-- d[k] = v -/
def sDPutX (P : Program) (w : World) (K : PySem.W.Frag) (td tk tv : TE) : TS := fun D σ H => tv σ H fun v H1 => td σ H1 fun x H2 => tk σ H2 fun y H3 => ∃ (a : Addr) (xs : List Ent) (k : List Key) (b : Addr), x = .ref a ∧ H3 a = some (DX P w a xs) ∧ EntsAt K H3 xs ∧ y = .ref b ∧ SqT K H3 b (k.map kV) ∧ xs.length ≤ sizeLine ∧ ∀ u : Value, NoCode H3 a → D.nx σ (upd H3 a (DX P w a (storedH xs k b u)))
theorem ps_dputX {o i value : Expr} {td tk tv : TE} {pos pos' : Pos} (hu : X.A.units + 1 < cLine) (ho : PE X o td) (hi : PE X i tk) (hv : PE X value tv) (hs : swapsWith value (some (.Subscript o i pos')) pos.line X.env = pure false) :
    PS X (.Assign [.Subscript o i pos'] value pos) (sDPutX X.prog X.w X.K td tk tv) := by
  refine ⟨fun pins s σ H D I h => ?_⟩
  refine wpAny_Assign_Subscript (thn (hv.run pins s σ H _ I h) fun r s1 ⟨v, H1, I1, rv, q1⟩ => thn (ho.run pins s1 σ H1 _ I1 q1) fun u s2 ⟨x, H2, I2, rx, q2⟩ => thn (hi.run pins s2 σ H2 _ I2 q2) fun iv s3 ⟨y, H3, I3, ry, a, xs, k, b, ex, e, hx, ey, eb, hz, q3⟩ => ?_) hs
  subst ex ey
  obtain rfl : u = Value.ref a := rx
  obtain rfl : iv = Value.ref b := ry
  obtain ⟨hd, dd⟩ := dx_dict I3 e hx
  refine wpAny_setItem_heap (hsz := hz) (tupleKind_room_in1 hu) (key_seq I3 eb) dd fun h' dd' hs' => ?_
  obtain ⟨q, es, ep, hq, h2, h3, h4, _, h5⟩ := dd'
  exact ⟨σ, _, d_write I3 (by rw [e]; exact True.intro) hs' ⟨q, hq⟩ (dx_ok hd ⟨q, es, ep, hq, h2, h3, h4, h5⟩), q3 r (dx_nocode I3 e)⟩
end
theorem pe_dispXK {X : Cx} {P : Program} {w : World} {K : PySem.W.Frag} {pos : Pos} {k v : Expr} {tk tv : TE} (hP : X.prog = P) (hw : X.w = w) (hK : X.K = K) (hu : X.A.units < cLine) (hk : PE X k tk) (hv : PE X v tv) : PE X (.Dict [some k] [v] pos) (tDispX P w K tk tv) := by
  subst hP hw hK
  exact pe_dispX hu hk hv
theorem ps_dputXK {X : Cx} {P : Program} {w : World} {K : PySem.W.Frag} {o i value : Expr} {td tk tv : TE} {pos pos' : Pos} (hP : X.prog = P) (hw : X.w = w) (hK : X.K = K) (hu : X.A.units + 1 < cLine) (ho : PE X o td) (hi : PE X i tk) (hv : PE X value tv) (hs : swapsWith value (some (.Subscript o i pos')) pos.line X.env = pure false) :
    PS X (.Assign [.Subscript o i pos'] value pos) (sDPutX P w K td tk tv) := by
  subst hP hw hK
  exact ps_dputX hu ho hi hv hs
/-! ### own len and iter, told once -/
structure LenC (P : Program) (w : World) (K : PySem.W.Frag) (mg : Str → Option Value) (base : Heap) (k : Nat) (C : Addr) (sp : Sp) : Prop where
  ex : ∃ (f : Addr) (fd : FuncData) (ps : List Str), OwnM K C "__len__" f ∧ FnOk P w K mg base C8.CX0 k f fd ps sp ∧ Binds K fd ps []
structure OitC (P : Program) (w : World) (K : PySem.W.Frag) (mg : Str → Option Value) (base : Heap) (k : Nat) (C : Addr) (g : Str) : Prop where
  ex : ∃ (f : Addr) (fd : FuncData) (ps : List Str), OwnM K C "__iter__" f ∧ FnN P w K mg base k f fd ps (spIterT K C g) ∧ Binds K fd ps []
section
variable {X : Cx} {C : Addr} {k j : Nat} {sp : Sp} {g : Str} {tg e : Expr} {te : TE}
theorem call_lenC (L : LenC X.prog X.w X.K X.mg X.base k C sp) (hr : Room j X.A) (hj : k + 1 ≤ j) : CallR X (.builtin "len") (rLenO C sp) := by
  obtain ⟨f, fd, ps, O, F, b⟩ := L.ex
  exact call_lenO O F b hr hj
theorem pi_oit (L : OitC X.prog X.w X.K X.mg X.base k C g) (hr : Room j X.A) (hj : k ≤ j) (he : PE X e te) : PI X tg e (iOwnT X.K C g te) := by
  obtain ⟨f, fd, ps, O, F, b⟩ := L.ex
  exact pi_ownT he O F b hr hj
end
/-! ### a def called where the guards are known -/
structure CalG (P : Program) (w : World) (K : PySem.W.Frag) (mg : Str → Option Value) (base : Heap) (k : Nat) (x : Str) (sp : Sp) : Prop where
  ex : ∃ (f : Addr) (fd : FuncData) (ps : List Str), (∀ vs H Q E, sp vs H Q E → vs.length = ps.length) ∧
    (∀ (A : Around) (outer : List Env) (s : Shared) (H : Hp) (args : Args) (us : List Value) (vs : List V) (Q : VK) (E : XK), Room k A → A.guards = some [] → Env0 P w K mg base A outer s H → BindsTo s fd args (ps.zip us) → Vals vs us → sp vs H Q E →
      codeAny (model P w) A (.call (.ref f) args) (CR C8.CX0 outer P w H s Q E) s) ∧ mg x = some (.ref f) ∧ PySem.W.keepIn K (.ref f) = true ∧ Binds K fd ps []
theorem calG {P : Program} {w : World} {K : PySem.W.Frag} {mg : Str → Option Value} {base : Heap} {x : Str} {st : Stmt} {f : Addr} {fd : FuncData} {N ps : List Str} {k : Nat} {sp : Sp} (F : C8.Def K mg x st f fd) (b : Binds K fd ps []) (S : FnScope N ps (C8.fnScope st)) (len : ∀ vs H Q E, sp vs H Q E → vs.length = ps.length)
    (hb : ∀ (c : Value) (A : Around) (out : List Env) (s : Shared) (H : Hp) (vs : List V) (Q : VK) (E : XK), Room k (A.deeper (envOfC x (C8.fnScope st) s.heap.objs.size f c)) → A.guards = some [] → sp vs H Q E →
      ∃ t, PSs (cxOf C8.CX0 P w K mg base N x (C8.fnScope st) f c A out s H E).nox (C8.fnBody st) t ∧ t { nx := fun _ h => Q .non h, rt := Q } (start N vs) H) : CalG P w K mg base (k + 1) x sp := by
  refine ⟨f, fd, ps, len, ?_, F.mgf, F.kp, b⟩
  obtain ⟨oc, od, dV, kV, dc, pm, an, c, ct, sl, rfl, lk, hc⟩ := F.fn.ex
  intro A out s H g us vs Q E hr hg e0 hbind r hsp
  have hn := len _ _ _ _ hsp
  have KX : K.In s.heap := e0.mod.kin.keeps fun _ _ z => keeps_of e0 z
  have lim := e0.mod.nolimit.keeps (h' := s.heap) fun _ _ z => keeps_of e0 z
  refine codeAny_call_function hr.depth (KX _ _ lk) rfl S.co S.gen rfl (PySem.W.codeRec_of KX hc) (hbind _ _ _ _ ?_)
  refine wpAny_newFunctionEnv_cells S.kind (fun y hy => ?_) fun env he s1 x1 => ?_
  · rcases S.par y.1 (List.of_mem_zip hy).1 with z | z
    · exact Or.inl z
    · exact Or.inr ⟨z, PySem.W.cellsFrom_some _ _ _ (Or.inl z)⟩
  · subst he
    refine ⟨lim.keeps x1.toInCall.keep, codeAny_func ?_⟩
    obtain ⟨t, ht, hq⟩ := hb c A out s H vs Q E (hr.deeper _) hg hsp
    refine wpAny_mono (ht.nox.run [] s1 (start N vs) H _ (inv_start S hr.hd e0 hn r x1) hq) (fun fl s' hs => ?_) (fun _ _ hs => hs)
    rcases fl with u | _ | _ | _
    all_goals first
      | exact (by obtain ⟨v, σ', H', J, rv, z⟩ := hs; exact ⟨v, H', J.os, J.bare, J.base, J.hok, rv, z⟩)
      | exact (by obtain ⟨σ', H', J, z⟩ := hs; exact ⟨V.non, H', J.os, J.bare, J.base, J.hok, rfl, z⟩)
      | exact (by obtain ⟨_, _, _, z⟩ := hs; exact z.elim)
section
variable {X : Cx} {k j : Nat} {x : Str} {sp : Sp} {p pos : Pos} {e : Expr} {es : List Expr} {t : TA}
theorem pe_cG (c : CalG X.prog X.w X.K X.mg X.base k x sp) (hr : Room j X.A) (hk : k ≤ j) (hgd : X.A.guards = some []) (hg : Gl X x) (ha : PA X (e :: es) t)
    (hdb : (x == ("__debug__" : Str)) = false := by decide) (he : starEach (e :: es) X.env = (false, eval e X.env) :: starEach es X.env := by rfl) (hpl : (backTo pos (starEach es X.env)).any (·.1) = false := by rfl) :
    PE X (.Call (.Name x p) (e :: es) [] pos) (tCall sp [] C8.E0 t) := by
  obtain ⟨f, fd, ps, len, run, hm, kp, b⟩ := c.ex
  refine ⟨fun pins s σ H Q I h => ?_⟩
  refine wpAny_Call_Name_kw (ld_glob I hg hm ?_ hdb)
  refine PySem.W.callWith_K (h₀ := X.base) I.ok.mod.kin kp (thn (ha.run pos pins s σ H _ I h) fun us s1 ⟨vs, H1, I1, r, q⟩ => ⟨I1.kIn, ?_⟩) he hpl
  dsimp only at q
  rw [List.append_nil] at q
  have hl : us.length = ps.length := by rw [← r.length]; exact len _ _ _ _ q
  refine wpAny_call (codeAny_mono (run X.A X.stack s1 H1 ⟨us, []⟩ us vs Q _ (hr.mono hk) hgd I1.env0 (by
    have := b s1 us I1.kIn (by simpa using hl)
    simpa using this) r q) fun r s' hq => ?_)
  cases r with
  | error e => exact pass0 _ _ _ _ _ _ I1 hq
  | ok fl =>
    cases fl with
    | ret u => exact I1.after hq
    | next => exact False.elim hq
    | brk => exact False.elim hq
    | cont => exact False.elim hq
/-- one of two rules for a call -/
theorem cr_alt {f : Value} {r1 r2 : List V → Hp → VK → Prop} (h1 : CallR X f r1) (h2 : CallR X f r2) : CallR X f (fun xs H Q => r1 xs H Q ∨ r2 xs H Q) := fun pins s σ H xs us Q I r h => h.elim (h1 pins s σ H xs us Q I r) (h2 pins s σ H xs us Q I r)
end
end Vf

set_option maxRecDepth 100000
set_option maxHeartbeats 4000000
namespace Vf
open PySem PySem.Spec PyProof.Rows L2 SX LamX
/-! ### a dict with tuples as keys, with its values -/
section
variable {X : Cx}
/-- {k: v} -/
def tDispY (P : Program) (w : World) (K : PySem.W.Frag) (tk tv : TE) : TE := fun σ H Q => ∀ p, H p = none → tk σ (upd H p (DX P w p [])) fun x H1 => tv σ H1 fun y H2 => ∃ (k : List Key) (b : Addr), H2 p = some (DX P w p []) ∧ x = .ref b ∧ SqT K H2 b (k.map kV) ∧ ∀ u : Value, RelV y u → NoCode H2 p → Q (.ref p) (upd H2 p (DX P w p [(k, b, u)]))
theorem pe_dispY {pos : Pos} {k v : Expr} {tk tv : TE} (hu : X.A.units < cLine) (hk : PE X k tk) (hv : PE X v tv) : PE X (.Dict [some k] [v] pos) (tDispY X.prog X.w X.K tk tv) := by
  refine ⟨fun pins s σ H Q I q => ?_⟩
  have hn := I.hok.fresh (Nat.le_refl s.heap.objs.size)
  have big : (s.heap.objs.size == sysModules) = false := beq_eq_false_iff_ne.mpr (Ne.symm (Nat.ne_of_lt I.big))
  have I1 : Inv X pins σ (upd H s.heap.objs.size (DX X.prog X.w s.heap.objs.size [])) { s with heap := s.heap.push { cls := .type "dict", data := .dict #[] } } := I.laid (a := s.heap.objs.size) (o := DX X.prog X.w s.heap.objs.size []) (h' := s.heap.push { cls := .type "dict", data := .dict #[] }) (t' := s.toks) (fun _ _ q => Heap.get?_push_of_some _ q) (Nat.le_refl _) (dx_ok big ⟨_, #[], 0, Heap.get?_push_size _ rfl, ⟨rfl, rfl, rfl⟩, rfl, rfl, List.nodup_nil⟩)
  refine wpAny_Dict_any (by rfl) (by rfl) (by simp) (by show 1 ≤ 15; decide) (thn ((pps_cons hk hv (pps_nil (X := X) (pos := pos))).run pins _ σ _ (fun ps H2 => ∃ x y, ps = [(x, y)] ∧ ∃ (k : List Key) (b : Addr), H2 s.heap.objs.size = some (DX X.prog X.w s.heap.objs.size []) ∧ x = .ref b ∧ SqT X.K H2 b (k.map kV) ∧ ∀ u : Value, RelV y u → NoCode H2 s.heap.objs.size → Q (.ref s.heap.objs.size) (upd H2 s.heap.objs.size (DX X.prog X.w s.heap.objs.size [(k, b, u)]))) I1 ?_) fun ws s2 ⟨ps, H2, I2, rel, x, y, eps, kk, b, e, ex, eb, q2⟩ => ?_)
  · have q' := q _ hn
    have mono : ∀ {t : TE} {σ : L2.St} {H : Hp} {Q Q' : VK}, t σ H Q → Q = Q' → t σ H Q' := fun h e => e ▸ h
    show tk σ _ fun x H1 => tv σ H1 fun y H2 => _
    refine mono q' ?_
    funext x H1
    refine congrArg _ ?_
    funext y H2
    refine propext ⟨fun ⟨k, b, h⟩ => ⟨x, y, rfl, k, b, h⟩, fun ⟨x', y', e, k, b, h⟩ => ?_⟩
    cases e
    exact ⟨k, b, h⟩
  · subst eps
    subst ex
    obtain ⟨⟨u, r⟩, rfl, h1, h2⟩ : ∃ p : Value × Value, ws = [p] ∧ RelV (.ref b) p.1 ∧ RelV y p.2 := by
      cases rel with
      | cons h t =>
        cases t
        exact ⟨_, rfl, h.1, h.2⟩
    obtain rfl : u = Value.ref b := h1
    obtain ⟨hd, dd⟩ := dx_dict I2 e (fun _ z => nomatch z)
    unfold storeAll
    rw [List.forIn_cons]
    refine wpAny_bind (wpAny_bind (wpAny_dictSet_heap (hsz := Nat.zero_le _) (knd := tupleKind (mixKind X.prog X.w)) (by show X.A.units < cLine; exact hu) (key_seq I2 eb) dd fun h' dd' hs => wpAny_pure ?_))
    show wpAny _ _ (forIn [] PUnit.unit _) _ _ _
    rw [List.forIn_nil]
    refine wpAny_pure ?_
    obtain ⟨q3, es, ep, hq, k2, k3, k4, _, k5⟩ := dd'
    exact ⟨.ref s.heap.objs.size, _, d_write I2 (by rw [e]; exact True.intro) hs ⟨q3, hq⟩ (dx_ok (xs := [(kk, b, r)]) hd ⟨q3, es, ep, hq, k2, k3, k4, k5⟩), rfl, q2 r h2 (dx_nocode I2 e)⟩
/-- d[k] = v -/
def sDPutY (P : Program) (w : World) (K : PySem.W.Frag) (td tk tv : TE) : TS := fun D σ H => tv σ H fun v H1 => td σ H1 fun x H2 => tk σ H2 fun y H3 => ∃ (a : Addr) (xs : List Ent) (k : List Key) (b : Addr), x = .ref a ∧ H3 a = some (DX P w a xs) ∧ EntsAt K H3 xs ∧ y = .ref b ∧ SqT K H3 b (k.map kV) ∧ xs.length ≤ sizeLine ∧ ∀ u : Value, RelV v u → NoCode H3 a → D.nx σ (upd H3 a (DX P w a (storedH xs k b u)))
theorem ps_dputY {o i value : Expr} {td tk tv : TE} {pos pos' : Pos} (hu : X.A.units + 1 < cLine) (ho : PE X o td) (hi : PE X i tk) (hv : PE X value tv) (hs : swapsWith value (some (.Subscript o i pos')) pos.line X.env = pure false) :
    PS X (.Assign [.Subscript o i pos'] value pos) (sDPutY X.prog X.w X.K td tk tv) := by
  refine ⟨fun pins s σ H D I h => ?_⟩
  refine wpAny_Assign_Subscript (thn (hv.run pins s σ H _ I h) fun r s1 ⟨v, H1, I1, rv, q1⟩ => thn (ho.run pins s1 σ H1 _ I1 q1) fun u s2 ⟨x, H2, I2, rx, q2⟩ => thn (hi.run pins s2 σ H2 _ I2 q2) fun iv s3 ⟨y, H3, I3, ry, a, xs, k, b, ex, e, hx, ey, eb, hz, q3⟩ => ?_) hs
  subst ex ey
  obtain rfl : u = Value.ref a := rx
  obtain rfl : iv = Value.ref b := ry
  obtain ⟨hd, dd⟩ := dx_dict I3 e hx
  refine wpAny_setItem_heap (hsz := hz) (tupleKind_room_in1 hu) (key_seq I3 eb) dd fun h' dd' hs' => ?_
  obtain ⟨q, es, ep, hq, h2, h3, h4, _, h5⟩ := dd'
  exact ⟨σ, _, d_write I3 (by rw [e]; exact True.intro) hs' ⟨q, hq⟩ (dx_ok hd ⟨q, es, ep, hq, h2, h3, h4, h5⟩), q3 r rv (dx_nocode I3 e)⟩
end
/-- d[k] -/
def tDGetY (P : Program) (w : World) (K : PySem.W.Frag) (td ty : TE) : TE := fun σ H Q => td σ H fun x H1 => ty σ H1 fun y H2 => ∃ (a : Addr) (xs : List Ent) (k : List Key) (b b2 : Addr) (u : Value) (v : V), x = .ref a ∧ H2 a = some (DX P w a xs) ∧ EntsAt K H2 xs ∧ y = .ref b ∧ SqT K H2 b (k.map kV) ∧ atKey xs k = some (b2, u) ∧ RelV v u ∧ Q v H2
theorem pe_dgetY {X : Cx} {o i : Expr} {td ty : TE} {pos : Pos} (hu : X.A.units + 1 < cLine) (ho : PE X o td) (hi : PE X i ty) (hs : NoSl i) : PE X (.Subscript o i pos) (tDGetY X.prog X.w X.K td ty) := by
  refine ⟨fun pins s σ H Q I h => ?_⟩
  refine subD_of PySem.F.slot_dict_getitem.lookup hs (thn (ho.run pins s σ H _ I h) fun u s1 ⟨x, H1, I1, rx, q1⟩ => thn (hi.run pins s1 σ H1 _ I1 q1) fun iv s2 ⟨y, H2, I2, ry, a, xs, k, b, b2, u2, v, ex, e, hx, ey, eb, hp, rv, q2⟩ => ?_)
  subst ex ey
  obtain rfl : u = Value.ref a := rx
  obtain rfl : iv = Value.ref b := ry
  obtain ⟨hd, dd⟩ := dx_dict I2 e hx
  exact ⟨dd.typeIs, wpAny_getItem_heap (tupleKind_room_in1 hu) (key_seq I2 eb) dd hp ⟨v, H2, I2.tok _, rv, q2⟩⟩
theorem at_snoc {xs : List Ent} {k k2 : List Key} {b : Addr} {u : Value} (h : atKey xs k = none) : atKey (xs ++ [(k, b, u)]) k2 = if k2 = k then some (b, u) else atKey xs k2 := by
  unfold atKey at h ⊢
  rw [List.find?_append]
  by_cases e : k2 = k
  · subst e
    have h' : xs.find? (fun x => decide (x.1 = k2)) = none := by
      cases q : xs.find? (fun x => decide (x.1 = k2)) with
      | none => rfl
      | some z => rw [q] at h; cases h
    rw [if_pos rfl, h', Option.none_or, List.find?_cons_of_pos (by exact decide_eq_true rfl)]
    rfl
  · rw [if_neg e, List.find?_cons_of_neg (by simpa using fun z => e z.symm), List.find?_nil, Option.or_none]
theorem at_stored {xs : List Ent} {k k2 : List Key} {b : Addr} {u : Value} (h : atKey xs k = none) : atKey (storedH xs k b u) k2 = if k2 = k then some (b, u) else atKey xs k2 := by
  rw [storedH_new h]
  exact at_snoc h
theorem pe_dispYK {X : Cx} {P : Program} {w : World} {K : PySem.W.Frag} {pos : Pos} {k v : Expr} {tk tv : TE} (hP : X.prog = P) (hw : X.w = w) (hK : X.K = K) (hu : X.A.units < cLine) (hk : PE X k tk) (hv : PE X v tv) : PE X (.Dict [some k] [v] pos) (tDispY P w K tk tv) := by
  subst hP hw hK
  exact pe_dispY hu hk hv
theorem ps_dputYK {X : Cx} {P : Program} {w : World} {K : PySem.W.Frag} {o i value : Expr} {td tk tv : TE} {pos pos' : Pos} (hP : X.prog = P) (hw : X.w = w) (hK : X.K = K) (hu : X.A.units + 1 < cLine) (ho : PE X o td) (hi : PE X i tk) (hv : PE X value tv) (hs : swapsWith value (some (.Subscript o i pos')) pos.line X.env = pure false) :
    PS X (.Assign [.Subscript o i pos'] value pos) (sDPutY P w K td tk tv) := by
  subst hP hw hK
  exact ps_dputY hu ho hi hv hs
theorem pe_dgetYK {X : Cx} {P : Program} {w : World} {K : PySem.W.Frag} {o i : Expr} {td ty : TE} {pos : Pos} (hP : X.prog = P) (hw : X.w = w) (hK : X.K = K) (hu : X.A.units + 1 < cLine) (ho : PE X o td) (hi : PE X i ty) (hs : NoSl i) : PE X (.Subscript o i pos) (tDGetY P w K td ty) := by
  subst hP hw hK
  exact pe_dgetY hu ho hi hs
end Vf

set_option maxRecDepth 100000
set_option maxHeartbeats 4000000
namespace Vf
open PySem PySem.Spec PyProof.Rows L2 PySem.Froz
/-! ### sorted(set(texts)) -/
/-- a set of texts whose table rises: it can be walked -/
def TxS (P : Program) (w : World) (h : Heap) (a : Addr) (l : List Str) : Prop :=
  ∃ D : SD, h.get? a = some (sObj "set" D) ∧ TxOk P w D l ∧ Ris D.2.2.place.toList ∧ (w.params.followText "set-order" = true ∨ D.2.2.led = true) ∧ l.Nodup
theorem TxS.at {P : Program} {w : World} {h h' : Heap} {a : Addr} {l : List Str} (R : TxS P w h a l) (k : ∀ o, h.get? a = some o → h'.get? a = some o) : TxS P w h' a l :=
  let ⟨D, e, r⟩ := R
  ⟨D, k _ e, r⟩
theorem tail_rises {ep : Nat} {es : Array (Int × Value)} {t : SetTable} {b : Bool} (r : Ris t.place.toList) : Ris (tailTx ep es t b).2.2.place.toList ∧ (tailTx ep es t b).2.2.led = t.led := by
  unfold tailTx
  by_cases c : (!b && t.tooFull) = true
  · rw [if_pos c]; exact ⟨relayAll_ris _ _ _, relayAll_led _ _ _⟩
  · rw [if_neg c]; exact ⟨r, rfl⟩
theorem add_rises (h : Int) (v : Value) {D : SD} (r : Ris D.2.2.place.toList) : Ris (addTx h v D).2.2.place.toList ∧ (addTx h v D).2.2.led = D.2.2.led := by
  have r1 := layNew_ris D.2.2 D.1 h v r
  have l1 := layNew_led D.2.2 D.1 h v
  unfold addTx
  by_cases c : (layNew D.2.2 D.1 h v).2.1.plain = true
  · rw [if_pos c]
    have := tail_rises (ep := D.2.1) (es := (layNew D.2.2 D.1 h v).1) (t := { (layNew D.2.2 D.1 h v).2.1 with plain := false }) (b := (layNew D.2.2 D.1 h v).2.2.1) r1
    exact ⟨this.1, this.2.trans l1⟩
  · rw [if_neg c]
    have := tail_rises (ep := D.2.1) (es := (layNew D.2.2 D.1 h v).1) (t := (layNew D.2.2 D.1 h v).2.1) (b := (layNew D.2.2 D.1 h v).2.2.1) r1
    exact ⟨this.1, this.2.trans l1⟩
section
variable {P : Program} {w : World} {A : Around} {E : Value → Shared → Prop} {s : Shared}
theorem old_x {a : Addr} {D : SD} {l : List Str} {k : Str} {u : Tok} {Q : Bool → Shared → Prop} (ho : s.heap.get? a = some (sObj "set" D)) (F : TxOk P w D l) (hk : k ∈ l) (hb : l.length < scanBound) (h : Q false s) :
    wpAny (model P w) A (setAddHashed a (.str k u) (hashStr w k)) Q E s := by
  obtain ⟨es, ep, t⟩ := D
  have q1 : es.size < scanBound := by have := F.sz; dsimp only at this; omega
  have q2 : ElemsOf (strKind P w) es.toList := F.el
  obtain ⟨j, hj⟩ : ∃ j, List.findIdx? (fun e => (strKind P w).is k e.2) es.toList = some j := by
    cases hr : List.findIdx? (fun e => (strKind P w).is k e.2) es.toList with
    | some j => exact ⟨j, rfl⟩
    | none =>
      obtain ⟨e, he, z⟩ := (F.mem k).mp hk
      have := List.findIdx?_eq_none_iff.mp hr e he
      rw [z] at this; cases this
  unfold setAddHashed setAddHashedIn
  refine wpAny_holding (wpAny_bind (wpAny_setState_of (o := sObj "set" (es, ep, t)) ho rfl F.fit ?_))
  dsimp only
  rw [byScan_of rfl q1 q2, if_pos rfl]
  unfold setAddByScan
  refine wpAny_bind (wpAny_bind (wpAny_rule (wpAny_bind (wpAny_setScan_of (knd := strKind P w) (k := k) (is_str k u) ho rfl F.fit q2 ?_))))
  rw [hj]
  exact wpAny_pure (wpAny_pure h)
/-- a text is put in, or is there -/
theorem txs_add {a : Addr} {l : List Str} {k : Str} {u : Tok} {Q : Bool → Shared → Prop} (R : TxS P w s.heap a l) (room : l.length + 1 < scanBound)
    (h : ∀ (b : Bool) (h' : Heap) (l' : List Str), (∀ c, c ≠ a → h'.get? c = s.heap.get? c) → TxS P w h' a l' → (∀ x, x ∈ l' ↔ x ∈ l ∨ x = k) → l'.length ≤ l.length + 1 → Q b { s with heap := h' }) :
    wpAny (model P w) A (setAddHashed a (.str k u) (hashStr w k)) Q E s := by
  obtain ⟨D, ho, F, r, hl, nd⟩ := R
  by_cases c : k ∈ l
  · exact old_x ho F c (by omega) (h false s.heap l (fun _ _ => rfl) ⟨D, ho, F, r, hl, nd⟩ (fun x => ⟨.inl, fun z => z.elim id fun e => e ▸ c⟩) (Nat.le_succ _))
  · have ar := add_rises (hashStr w k) (.str k u) r
    refine add_x ho F c room (h true _ (k :: l) (fun c hc => Heap.get?_update_other _ _ (Ne.symm hc)) ⟨_, get_upd _ ho rfl, add_ok u F, ar.1, hl.imp id fun z => ar.2.trans z, List.nodup_cons.mpr ⟨c, nd⟩⟩ (fun x => ?_) (by rw [List.length_cons]; exact Nat.le_refl _))
    rw [List.mem_cons]; exact or_comm
theorem txs_loop {I : Addr} {fp wr : List Addr} {G : Array GenState → Array GenState → Prop} {n : Nat} {Pv : Nat → Value → Prop} {St : Nat → Shared → Prop} {R : Result → Shared → Prop} (W : WalksS P w A.in1 I fp wr G n Pv St) {d : Addr} (hd : d ∉ fp) {zs : List Str} (hn : n = zs.length)
    (hb : zs.length + 1 < scanBound) (hv : ∀ i v, Pv i v → ∃ k t, zs[i]? = some k ∧ v = .str k t) : ∀ (m i : Nat) (s : Shared) (l : List Str), i + m = n → St i s → TxS P w s.heap d l → (∀ x, x ∈ l ↔ x ∈ zs.take i) → l.length ≤ i →
      (∀ s' l', Moved (d :: wr) G s s' → TxS P w s'.heap d l' → (∀ x, x ∈ l' ↔ x ∈ zs) → l'.length ≤ n → R (.ok (.ret .none)) s') → codeAny (model P w) A (.builtin "set.update.loop" ⟨[.ref d, .ref I], []⟩) R s := by
  have dw : d ∉ wr := fun z => hd (W.sub _ z)
  have up : ∀ b ∈ wr, b ∈ d :: wr := fun b z => .tail _ z
  intro m
  induction m with
  | zero =>
    intro i s l hi st T hl hlen q
    have e : i = n := hi
    subst e
    refine codeAny_builtin F.entry_set_update_loop ?_
    rw [Around.under_plainId F.plain_set_update_loop _]
    refine wpAny_bind (m := pyNext (.ref I)) (W.done s _ _ st fun s1 mv => ?_)
    refine (?_ : wpAny _ A.in1 (ret Value.none) _ _ s1)
    exact wpAny_pure (q s1 l (mv.mono up) (T.at fun o z => mv.heap d o dw z) (fun x => by rw [hl, List.take_of_length_le (by omega)]) hlen)
  | succ m ih =>
    intro i s l hi st T hl hlen q
    refine codeAny_builtin F.entry_set_update_loop ?_
    rw [Around.under_plainId F.plain_set_update_loop _]
    refine wpAny_bind (m := pyNext (.ref I)) (W.item i s _ _ (by omega) st fun v s1 pv st1 mv => ?_)
    obtain ⟨k, t, hk, rfl⟩ := hv i v pv
    have T1 : TxS P w s1.heap d l := T.at fun o z => mv.heap d o dw z
    refine wpAny_bind (m := holding [Value.str k t] (setAdd d (.str k t))) (wpAny_holding ?_)
    unfold setAdd
    refine wpAny_holding (wpAny_bind ((strKind P w).pyHash (k := k) (is_str k t) ?_))
    refine txs_add (s := { s1 with toks := s1.toks + 1 }) T1 (by omega) fun b h2 l2 hs T2 hl2 hn2 => ?_
    refine wpAny_pure ⟨plainId_quiet F.plain_set_update_loop _, ih (i + 1) _ l2 (by omega) (W.frame _ s1 _ _ st1 (Nat.le_succ _) fun c hc o z => ?_) T2 (fun x => ?_) (by omega) fun s3 l3 mv3 T3 h3 h4 => ?_⟩
    · rw [hs c fun y => hd (y ▸ hc)]; exact z
    · rw [hl2, hl, List.take_add_one, hk, List.mem_append]; simp
    · refine q s3 l3 (Moved.trans W.gtrans ((mv.mono up).then_heap (Nat.le_succ _) fun c o hc z => ?_) mv3) T3 h3 h4
      rw [hs c fun y => hc (by rw [y]; exact .head _)]; exact z
theorem txt_at : ∀ {vs : List Value} {zs : List Str} {i : Nat} {v : Value}, StrsAre vs zs → vs[i]? = some v → ∃ k t, zs[i]? = some k ∧ v = .str k t
  | [], [], _, _, _, e => by cases e
  | u :: vs, z :: zs, i, v, h, e => by
    cases h with
    | cons k t h' => cases i with
      | zero => cases e; exact ⟨_, _, rfl, rfl⟩
      | succ i => exact txt_at (i := i) h' e
abbrev nuSet (w : World) : Obj := { cls := .type "set", dict := none, data := .set #[] 0 (.fresh 0 0 (!w.params.followText "set-order")) }
theorem nu_txs {h : Heap} {a : Addr} (e : h.get? a = some (nuSet w)) : TxS P w h a [] :=
  ⟨(#[], 0, .fresh 0 0 (!w.params.followText "set-order")), e, .nil rfl, List.Pairwise.nil, by
    show _ ∨ (!w.params.followText "set-order") = true
    cases w.params.followText "set-order" <;> simp, List.nodup_nil⟩
def TxMade (P : Program) (w : World) (s : Shared) (zs : List Str) (Q : Value → Shared → Prop) : Prop :=
  ∀ (h' : Heap) (tk : Nat) (l : List Str), TxS P w h' s.heap.objs.size l → (∀ x, x ∈ l ↔ x ∈ zs) → l.length ≤ zs.length → (∀ b o, s.heap.get? b = some o → h'.get? b = some o) → Q (.ref s.heap.objs.size) { s with heap := h', toks := tk }
set_option maxHeartbeats 3200000 in
theorem set_of_texts {d : Addr} {items : Array Value} {zs : List Str} {Q : Value → Shared → Prop} (hh : A.handled = none) (hl : s.heap.IsList d items) (hi : StrsAre items.toList zs) (hb : zs.length + 1 < scanBound) (q : TxMade P w s zs Q) :
    wpAny (model P w) A (call (.type "set") [.ref d]) Q E s := by
  have z0 : items.size = zs.length := by rw [← StrsAre.len_eq hi, Array.length_toList]
  have z1 : (s.heap.push (nuSet w)).get? s.heap.objs.size = some (nuSet w) := Heap.get?_push_size _ rfl
  obtain ⟨c, tl, m1⟩ := F.called_set.mro
  have m2 := F.called_set.made
  have m3 := F.called_set.sub
  have m4 := F.called_set.notType
  have m5 := F.called_set.canCreate
  have m6 := F.typeCall_set_1 (.ref d)
  refine wpAny_call (codeAny_of_tree (?_ : wpAny _ _ (callAny (.type "set") _) _ _ _))
  refine wpAny_pure ⟨Code.quiet_builtin _ (by decide +kernel), codeAny_builtin F.entry_type_call ?_⟩
  rw [Around.under_plain (weight_type_call_type "set" [.ref d] []) rfl]
  repeat (any_goals (first | assumption | wp_step))
  refine codeAny_mono (code_set_led1 (.ref d) (E := E) (Q₁ := fun obj s1 => obj = .ref s.heap.objs.size ∧ s1 = { s with heap := s.heap.push (nuSet w) }) ⟨rfl, rfl⟩) fun r s1 hr => ?_
  rcases r with e | fl
  · exact hr
  · cases fl with
    | ret obj =>
      obtain ⟨rfl, rfl⟩ := hr
      have t1 : Shared.TypeIs { s with heap := s.heap.push (nuSet w) } (.ref s.heap.objs.size) "set" := ⟨_, z1, rfl⟩
      have m7 := F.called_set.init.lookup
      have m8 := F.called_set.init.bind (.ref s.heap.objs.size)
      repeat (any_goals (first | assumption | wp_step))
      refine codeAny_mono (codeAny_call_builtin (R := wants (fun r s2 => r = .none ∧ Q (.ref s.heap.objs.size) s2) E) F.called_set.init.plain F.entry_set_init (check_set_init_1 t1 ?_)) fun r2 s2 h2 => ?_
      · obtain ⟨⟨oc, od, odt, osl⟩, g1, g2, g3, g4⟩ := hl
        dsimp only at g2 g4
        subst g2
        subst g4
        have g5 : (s.heap.push (nuSet w)).IsList d items := ⟨_, Heap.get?_push_of_some _ g1, rfl, g3, rfl⟩
        have g6 : (s.heap.push (nuSet w)).get? d = some { cls := .type "list", dict := od, data := .seq items g3, slots := osl } := Heap.get?_push_of_some _ g1
        have b1 := F.sub_list_set
        have b2 := F.sub_list_frozenset
        have b3 : (Value.type "list" == Value.type "dict") = false := by decide
        have dl : d < s.heap.objs.size := Heap.lt_size g1
        have ps : (s.heap.push (nuSet w)).objs.size = s.heap.objs.size + 1 := Heap.size_push ..
        unfold Builtin.«set.__init__» noKeywords Builtin.Frozenset.updateFrom
        generalize hit : pyIter = it
        wp_walk
        subst hit
        refine wpAny_pyIter_list g5 (wpAny_bind (wpAny_runValue ?_))
        have hx : A.in1.in1.in1.handled = none := by simp [hh]
        have dn : d ≠ (s.heap.push (nuSet w)).objs.size := by rw [ps]; exact Nat.ne_of_lt (Nat.lt_succ_of_lt dl)
        refine txs_loop ((Walks.list hx _ d dn items).toS) (d := s.heap.objs.size) (by rw [ps]; simp; exact (Nat.ne_of_lt dl).symm) z0 hb (fun i v e => ?_) items.size 0 _ [] (Nat.zero_add _) ⟨⟨_, Heap.get?_push_size _ rfl, rfl, rfl⟩, g5.push _⟩ (nu_txs (Heap.get?_push_of_some _ z1)) (by simp) (Nat.zero_le _) fun s9 l9 mv T9 h9 n9 => ?_
        · exact txt_at hi (by rw [Array.getElem?_toList]; exact e)
        · obtain ⟨h9', g9, d9, tk9, o9⟩ := s9
          obtain rfl : g9 = s.gens := mv.gens
          obtain rfl : d9 = s.drawn := mv.drawn
          obtain rfl : o9 = s.os := mv.os
          refine (?_ : wpAny _ _ _ _ _ _)
          refine wpAny_pure (?_ : wpAny _ _ (ret Value.none) _ _ _)
          refine wpAny_pure ⟨rfl, q h9' tk9 l9 T9 h9 (by omega) fun b o e => ?_⟩
          have := Heap.lt_size e
          exact mv.heap b o (by rw [ps]; simp; exact ⟨Nat.ne_of_lt this, Nat.ne_of_lt (Nat.lt_succ_of_lt this)⟩) (Heap.get?_push_of_some _ (Heap.get?_push_of_some _ e))
      · rcases r2 with e | f2
        · exact h2
        · cases f2 with
          | ret r =>
            obtain ⟨rfl, h3⟩ := h2
            repeat (any_goals (first | assumption | wp_step))
          | _ => exact h2.elim
    | _ => exact hr.elim
theorem strs_some : ∀ {vs : List Value}, (∀ v ∈ vs, ∃ k t, v = Value.str k t) → ∃ zs, StrsAre vs zs
  | [], _ => ⟨[], .nil⟩
  | v :: vs, h => by
    obtain ⟨k, t, rfl⟩ := h v (.head _)
    obtain ⟨zs, hz⟩ := strs_some (vs := vs) fun u hu => h u (.tail _ hu)
    exact ⟨k :: zs, .cons _ _ hz⟩
theorem sorted_txs {a : Addr} {l : List Str} {Q : Value → Shared → Prop} (R : TxS P w s.heap a l) (hh : A.handled = none) (h64 : l.length < 64)
    (q : ∀ s' p (out : Array Value) (c : Nat) (ys : List Str), (∀ b o, s.heap.get? b = some o → s'.heap.get? b = some o) → s'.gens = s.gens → s'.os = s.os → s.heap.objs.size ≤ p → s'.heap.get? p = some (seqObj "list" out c) → StrsAre out.toList ys → (∀ y ∈ ys, y ∈ l) → ys.length = l.length → Q (.ref p) s') :
    wpAny (model P w) A (call (.builtin "sorted") [.ref a]) Q E s := by
  obtain ⟨⟨es, ep, t⟩, ho, Fx, r, hl, _⟩ := R
  have f1 : es.size = l.length := Fx.sz
  refine Calls.call_function_entry kind_sorted plain_sorted entry_sorted (args_sorted1 _) ?_
  unfold Builtin.«sorted»
  refine wpAny_bind (m := checkCount "sorted" 1 1 _) (wpAny_pure ?_)
  refine wpAny_bind (collect_set (A := A.in1) (ep := ep) hh ⟨_, ho, rfl, rfl⟩ Fx.fit (by rw [f1]; exact Nat.lt_trans h64 (by decide)) r hl fun s1 vs k1 hz g1 o1 pm => ?_)
  have c1 : vs.length = l.length := by rw [pm.length_eq, List.length_map, Array.length_toList]; exact f1
  have c2 : ∀ v ∈ vs, ∃ k t, v = Value.str k t ∧ k ∈ l := fun v hv => by
    obtain ⟨e, he, rfl⟩ := List.mem_map.mp (pm.mem_iff.mp hv)
    obtain ⟨⟨k, hk, _⟩, _⟩ := Fx.el e he
    obtain ⟨t, ev⟩ := Value.isStrOf_shape (x := k) (v := e.2) hk
    exact ⟨k, t, ev, (Fx.mem k).mpr ⟨e, he, hk⟩⟩
  obtain ⟨ks, hS⟩ := strs_some (vs := vs) fun v hv => let ⟨k, t, e, _⟩ := c2 v hv; ⟨k, t, e⟩
  have c3 : ∀ y ∈ ks, y ∈ l := fun y hy => by
    obtain ⟨i, hi⟩ := List.mem_iff_getElem?.mp hy
    have hlen : ks.length = vs.length := (StrsAre.len_eq hS).symm
    have hi2 : i < vs.length := by rw [← hlen]; exact (List.getElem?_eq_some_iff.mp hi).1
    obtain ⟨k, t, e1, e2⟩ := txt_at hS (List.getElem?_eq_getElem hi2)
    obtain ⟨k', t', e3, e4⟩ := c2 _ (List.getElem_mem hi2)
    rw [hi] at e1
    rw [e2] at e3
    obtain rfl := Option.some.inj e1
    cases e3
    exact e4
  refine wpAny_bind (wpAny_newList ?_ (by rw [c1, sizeLine_eq]; omega))
  have hoL : (s1.heap.push (seqObj "list" vs.toArray 0)).get? s1.heap.objs.size = some (seqObj "list" vs.toArray 0) := Heap.get?_push_size _ rfl
  refine wpAny_bind (wpAny_holding (wpAny_call_entry slot_list_sort ⟨_, hoL, rfl⟩ entry_list_sort
    (list_sort_treeK strKind_oneLt (s := { s1 with heap := s1.heap.push (seqObj "list" vs.toArray 0) }) hoL hS.keysOf (fun v₁ v₂ rest e => keyKind_strs (by rw [← e]; exact hS)) (by rw [c1]; exact h64) fun st' hp hs => ⟨_, rfl, ?_⟩) (args_list_sort _)))
  obtain ⟨ys, d1, d2, d3⟩ := sorted_out_str hS hp hs
  obtain ⟨c, hc⟩ := sortedHeap_at (vs := vs) (out := (arrOf st').map (·.2)) hoL
  refine wpAny_pure ⟨_, rfl, q _ s1.heap.objs.size _ c ys (fun b o e => ?_) g1 o1 hz hc d1 (fun y hy => c3 y (d2.mem_iff.mp hy)) (by rw [d2.length_eq, ← c1, StrsAre.len_eq hS])⟩
  have e1 := k1 b o e
  have e2 := Heap.lt_size e1
  rw [sortedHeap_old (Nat.ne_of_lt e2) (by rw [size_push']; exact Nat.lt_succ_of_lt e2)]
  exact Heap.get?_push_of_some _ e1
end
/-- the set at a, of the texts l -/
def SetX (P : Program) (w : World) (a : Addr) (l : List Str) : HO := .ext fun h => TxS P w h a l
section
variable {X : Cx}
theorem setX_new {w : World} {P : Program} {H : Hp} {h : Heap} {a : Addr} {l : List Str} (R : TxS P w h a l) : ObjOk P w H h a (SetX P w a l) :=
  let ⟨_, ho, _⟩ := id R
  ⟨R, ⟨_, ho⟩, fun _ _ p k => TxS.at p k⟩
def rSetT (K : PySem.W.Frag) (P : Program) (w : World) : List V → Hp → VK → Prop := fun vs H Q => ∃ (a : Addr) (zs : List Str), vs = [V.ref a] ∧ SqL K H a (zs.map V.str) ∧ zs.length + 1 < 200 ∧
  ∀ (l : List Str) (p : Addr), (∀ x, x ∈ l ↔ x ∈ zs) → l.Nodup → H p = none → Q (.ref p) (upd H p (SetX P w p l))
theorem cr_setT (hc : X.calm = true) : CallR X (.type "set") (rSetT X.K X.prog X.w) := by
  intro pins s σ H vs us Q I r h
  obtain ⟨a, zs, rfl, hs, hb, q⟩ := h
  obtain ⟨its, rv, hl, _⟩ := I.list hs
  rw [Vals.ref1 r]
  refine set_of_texts (I.ok.hd hc) hl.isList rv.strs (Nat.lt_trans hb (by decide)) fun h' tk l T hm hn k => ?_
  exact ⟨.ref _, upd H s.heap.objs.size (SetX X.prog X.w s.heap.objs.size l), I.laid (t' := tk) k (Nat.le_refl _) (setX_new T), rfl, q l _ hm (let ⟨_, _, _, _, _, z⟩ := T; z) (I.hok.fresh (Nat.le_refl _))⟩
def rSortedT (P : Program) (w : World) : List V → Hp → VK → Prop := fun vs H Q => ∃ (a : Addr) (l : List Str), vs = [V.ref a] ∧ H a = some (SetX P w a l) ∧ l.length < 64 ∧
  ∀ (ys : List Str) (p : Addr), (∀ y ∈ ys, y ∈ l) → ys.length = l.length → H p = none → Q (.ref p) (upd H p (.lst (ys.map V.str)))
theorem cr_sortedT (hc : X.calm = true) : CallR X (.builtin "sorted") (rSortedT X.prog X.w) := by
  intro pins s σ H vs us Q I r h
  obtain ⟨a, l, rfl, ha, h64, q⟩ := h
  have R : TxS X.prog X.w s.heap a l := (I.hok a _ ha).1
  rw [Vals.ref1 r]
  refine sorted_txs R (I.ok.hd hc) h64 fun s' p out c ys k g o hp hg hi hm hn => ?_
  have z1 : (ys.map V.str).length ≤ sizeLine := by rw [List.length_map, hn, sizeLine_eq]; omega
  have z2 : H p = none := I.hok.fresh hp
  obtain ⟨h9, g9, d9, t9, o9⟩ := s'
  obtain rfl : g9 = s.gens := g
  obtain rfl : o9 = s.os := o
  have J : Inv X pins σ (upd H p (.lst (ys.map V.str))) { s with heap := h9, drawn := d9, toks := t9 } :=
    I.call (ch := []) (Un.laid k hp z2) (I.hok.laid k hp ⟨z1, out.toList, c, vals_of_strs hi, hg⟩) I.bare (fun _ z => nomatch z)
  exact ⟨.ref p, _, J, rfl, q ys p hm hn z2⟩
end
end Vf

set_option maxRecDepth 100000
set_option maxHeartbeats 4000000
namespace Vf
open PySem PySem.Spec PyProof.Rows L2 SX

def topS (i : Nat) : Stmt := PySem.Challenge.pw_textworkshop_k13_whole_sign_by_sign.main.body.getD i (.Pass ⟨0, 0, 0, 0⟩)
abbrev s_Reader_init : Stmt := (C8.clsBody (topS 3)).getD 0 (.Pass ⟨0, 0, 0, 0⟩)
def N_Reader_init : List Str := ["self", "rules", "marks", "number", "rule", "depth"]
theorem sc_Reader_init : FnScope N_Reader_init ["self", "rules"] (C8.fnScope s_Reader_init) := C8.fnScope_by (by decide +kernel)
abbrev s_Reader_passed : Stmt := (C8.clsBody (topS 3)).getD 1 (.Pass ⟨0, 0, 0, 0⟩)
def N_Reader_passed : List Str := ["self", "mode", "text", "place", "ended", "number", "depth", "escaped", "kind", "mark", "behind"]
theorem sc_Reader_passed : FnScope N_Reader_passed ["self", "mode", "text", "place", "ended"] (C8.fnScope s_Reader_passed) := C8.fnScope_by (by decide +kernel)
abbrev s_Reader_is_beginning : Stmt := (C8.clsBody (topS 3)).getD 2 (.Pass ⟨0, 0, 0, 0⟩)
def N_Reader_is_beginning : List Str := ["self", "mode", "text", "place", "marks", "many", "rest", "mark", "_"]
theorem sc_Reader_is_beginning : FnScope N_Reader_is_beginning ["self", "mode", "text", "place"] (C8.fnScope s_Reader_is_beginning) := C8.fnScope_by (by decide +kernel)
abbrev s_Reader_read : Stmt := (C8.clsBody (topS 3)).getD 3 (.Pass ⟨0, 0, 0, 0⟩)
def N_Reader_read : List Str := ["self", "mode", "text", "ended", "place", "kinds", "step", "behind", "kind"]
theorem sc_Reader_read : FnScope N_Reader_read ["self", "mode", "text", "ended"] (C8.fnScope s_Reader_read) := C8.fnScope_by (by decide +kernel)
abbrev s_pieceMarks : Stmt := topS 4
def N_pieceMarks : List Str := ["rule", "number", "depth", "marks"]
theorem sc_pieceMarks : FnScope N_pieceMarks ["rule", "number", "depth"] (C8.fnScope s_pieceMarks) := C8.fnScope_by (by decide +kernel)
abbrev s_longestFirst : Stmt := topS 5
def N_longestFirst : List Str := ["marks"]
theorem sc_longestFirst : FnScope N_longestFirst ["marks"] (C8.fnScope s_longestFirst) := C8.fnScope_by (by decide +kernel)
abbrev s_ReadingMachine_init : Stmt := (C8.clsBody (topS 8)).getD 0 (.Pass ⟨0, 0, 0, 0⟩)
def N_ReadingMachine_init : List Str := ["self", "tongue"]
theorem sc_ReadingMachine_init : FnScope N_ReadingMachine_init ["self", "tongue"] (C8.fnScope s_ReadingMachine_init) := C8.fnScope_by (by decide +kernel)
abbrev s_ReadingMachine_moved : Stmt := (C8.clsBody (topS 8)).getD 1 (.Pass ⟨0, 0, 0, 0⟩)
def N_ReadingMachine_moved : List Str := ["self", "stand", "sign", "mode", "waiting", "text", "after", "place", "kinds", "told", "rest"]
theorem sc_ReadingMachine_moved : FnScope N_ReadingMachine_moved ["self", "stand", "sign"] (C8.fnScope s_ReadingMachine_moved) := C8.fnScope_by (by decide +kernel)
abbrev s_ReadingMachine_ended : Stmt := (C8.clsBody (topS 8)).getD 2 (.Pass ⟨0, 0, 0, 0⟩)
def N_ReadingMachine_ended : List Str := ["self", "stand", "mode", "waiting"]
theorem sc_ReadingMachine_ended : FnScope N_ReadingMachine_ended ["self", "stand"] (C8.fnScope s_ReadingMachine_ended) := C8.fnScope_by (by decide +kernel)
abbrev s_Rule_init : Stmt := (C8.clsBody (topS 19)).getD 0 (.Pass ⟨0, 0, 0, 0⟩)
def N_Rule_init : List Str := ["self", "words", "options"]
theorem sc_Rule_init : FnScope N_Rule_init ["self", "words"] (C8.fnScope s_Rule_init) := C8.fnScope_by (by decide +kernel)
abbrev s_readRules : Stmt := topS 20
def N_readRules : List Str := ["text", "rules", "openers", "number", "line", "column"]
theorem sc_readRules : FnScope N_readRules ["text"] (C8.fnScope s_readRules) := C8.fnScope_by (by decide +kernel)
abbrev s_wrongColumn : Stmt := topS 21
def N_wrongColumn : List Str := ["line", "openers", "words", "column", "place", "word"]
theorem sc_wrongColumn : FnScope N_wrongColumn ["line", "openers"] (C8.fnScope s_wrongColumn) := C8.fnScope_by (by decide +kernel)
abbrev s_canStand : Stmt := topS 22
def N_canStand : List Str := ["ahead", "word", "openers"]
theorem sc_canStand : FnScope N_canStand ["ahead", "word", "openers"] (C8.fnScope s_canStand) := C8.fnScope_by (by decide +kernel)
abbrev s_optionCanStand : Stmt := topS 23
def N_optionCanStand : List Str := ["ahead", "word", "given", "option"]
theorem sc_optionCanStand : FnScope N_optionCanStand ["ahead", "word"] (C8.fnScope s_optionCanStand) := C8.fnScope_by (by decide +kernel)
abbrev s_isMark : Stmt := topS 24
def N_isMark : List Str := ["word", "sign"]
theorem sc_isMark : FnScope N_isMark ["word"] (C8.fnScope s_isMark) := C8.fnScope_by (by decide +kernel)
abbrev s_ruleWeight : Stmt := topS 25
def N_ruleWeight : List Str := ["rule", "many"]
theorem sc_ruleWeight : FnScope N_ruleWeight ["rule"] (C8.fnScope s_ruleWeight) := C8.fnScope_by (by decide +kernel)
abbrev s_Tongue_init : Stmt := (C8.clsBody (topS 27)).getD 0 (.Pass ⟨0, 0, 0, 0⟩)
def N_Tongue_init : List Str := ["self", "text", "rules", "rule"]
theorem sc_Tongue_init : FnScope N_Tongue_init ["self", "text"] (C8.fnScope s_Tongue_init) := C8.fnScope_by (by decide +kernel)
abbrev s_Tongue_eq : Stmt := (C8.clsBody (topS 27)).getD 3 (.Pass ⟨0, 0, 0, 0⟩)
def N_Tongue_eq : List Str := ["self", "other"]
theorem sc_Tongue_eq : FnScope N_Tongue_eq ["self", "other"] (C8.fnScope s_Tongue_eq) := C8.fnScope_by (by decide +kernel)
abbrev s_Tongue_kinds : Stmt := (C8.clsBody (topS 27)).getD 4 (.Pass ⟨0, 0, 0, 0⟩)
def N_Tongue_kinds : List Str := ["self", "text"]
theorem sc_Tongue_kinds : FnScope N_Tongue_kinds ["self", "text"] (C8.fnScope s_Tongue_kinds) := C8.fnScope_by (by decide +kernel)
abbrev s_pen : Stmt := topS 29
def N_pen : List Str := ["_law_script", "_law_fold", "_law_cell"]
theorem sc_pen : FnScope N_pen ["_law_script"] (C8.fnScope s_pen) := C8.fnScope_by (by decide +kernel)
abbrev s_draw : Stmt := topS 30
def N_draw : List Str := ["_law_pen_here", "_law_many", "_law_cell", "_law_digit", "_law_mixed"]
theorem sc_draw : FnScope N_draw ["_law_pen_here", "_law_many"] (C8.fnScope s_draw) := C8.fnScope_by (by decide +kernel)
abbrev s_pick : Stmt := topS 31
def N_pick : List Str := ["_law_pen_here", "_law_some_here"]
theorem sc_pick : FnScope N_pick ["_law_pen_here", "_law_some_here"] (C8.fnScope s_pick) := C8.fnScope_by (by decide +kernel)
abbrev s_lawWord : Stmt := topS 32
def N_lawWord : List Str := ["_law_pen_here", "_law_signs", "_law_most", "_law_k"]
theorem sc_lawWord : FnScope N_lawWord ["_law_pen_here", "_law_signs", "_law_most"] (C8.fnScope s_lawWord) := C8.fnScope_by (by decide +kernel)
abbrev s_markSigns : Stmt := topS 33
def N_markSigns : List Str := []
theorem sc_markSigns : FnScope N_markSigns [] (C8.fnScope s_markSigns) := C8.fnScope_by (by decide +kernel)
abbrev s_some : Stmt := topS 34
def N_some : List Str := ["_law_pen_here", "_law_items", "_law_many", "_law_rest", "_law_found", "_law_k"]
theorem sc_some : FnScope N_some ["_law_pen_here", "_law_items", "_law_many"] (C8.fnScope s_some) := C8.fnScope_by (by decide +kernel)
abbrev s_ruleLine : Stmt := topS 35
def N_ruleLine : List Str := ["_law_rule", "_law_kind", "_law_mark", "_law_close", "_law_deep", "_law_escape", "_law_doubled", "_law_line", "_law_words"]
theorem sc_ruleLine : FnScope N_ruleLine ["_law_rule"] (C8.fnScope s_ruleLine) := C8.fnScope_by (by decide +kernel)
abbrev s_tongueText : Stmt := topS 36
def N_tongueText : List Str := ["_law_rules", "_law_rule"]
theorem sc_tongueText : FnScope N_tongueText ["_law_rules"] (C8.fnScope s_tongueText) := C8.fnScope_by (by decide +kernel)
abbrev s_newRule : Stmt := topS 37
def N_newRule : List Str := ["_law_pen_here", "_law_mark", "_law_signs", "_law_most", "_law_kind", "_law_way", "_law_close", "_law_nests", "_law_escape", "_law_doubled", "_law_line"]
theorem sc_newRule : FnScope N_newRule ["_law_pen_here", "_law_mark", "_law_signs", "_law_most"] (C8.fnScope s_newRule) := C8.fnScope_by (by decide +kernel)
abbrev s_newRules : Stmt := topS 38
def N_newRules : List Str := ["_law_pen_here", "_law_many", "_law_most", "_law_signs", "_law_marks", "_law_turn", "_law_mark"]
theorem sc_newRules : FnScope N_newRules ["_law_pen_here", "_law_many", "_law_most"] (C8.fnScope s_newRules) := C8.fnScope_by (by decide +kernel)
abbrev s_ruleWords : Stmt := topS 39
def N_ruleWords : List Str := ["_law_rules", "_law_found", "_law_rule", "_law_word_here"]
theorem sc_ruleWords : FnScope N_ruleWords ["_law_rules"] (C8.fnScope s_ruleWords) := C8.fnScope_by (by decide +kernel)
abbrev s_tongueSigns : Stmt := topS 40
def N_tongueSigns : List Str := ["_law_rules", "_law_sign"]
theorem sc_tongueSigns : FnScope N_tongueSigns ["_law_rules"] (C8.fnScope s_tongueSigns) := C8.fnScope_by (by decide +kernel)
abbrev s_markedText : Stmt := topS 41
def N_markedText : List Str := ["_law_pen_here", "_law_rules", "_law_most", "_law_pieces_here", "_law_k"]
theorem sc_markedText : FnScope N_markedText ["_law_pen_here", "_law_rules", "_law_most"] (C8.fnScope s_markedText) := C8.fnScope_by (by decide +kernel)
abbrev s_opened : Stmt := topS 42
def N_opened : List Str := ["_law_rules", "_law_text", "_law_at", "_law_best", "_law_many", "_law_k", "_law_mark"]
theorem sc_opened : FnScope N_opened ["_law_rules", "_law_text", "_law_at"] (C8.fnScope s_opened) := C8.fnScope_by (by decide +kernel)
abbrev s_lawPassed : Stmt := topS 43
def N_lawPassed : List Str := ["_law_rule", "_law_text", "_law_at", "_law_depth", "_law_kind", "_law_mark", "_law_close", "_law_deep", "_law_escape", "_law_doubled", "_law_line", "_law_ends"]
theorem sc_lawPassed : FnScope N_lawPassed ["_law_rule", "_law_text", "_law_at", "_law_depth"] (C8.fnScope s_lawPassed) := C8.fnScope_by (by decide +kernel)
abbrev s_lawPieces : Stmt := topS 44
def N_lawPieces : List Str := ["_law_rules", "_law_text", "_law_found", "_law_at", "_law_here", "_law_depth", "_law_start", "_law_turn", "_law_many"]
theorem sc_lawPieces : FnScope N_lawPieces ["_law_rules", "_law_text"] (C8.fnScope s_lawPieces) := C8.fnScope_by (by decide +kernel)
abbrev s_lawKinds : Stmt := topS 45
def N_lawKinds : List Str := ["_law_rules", "_law_text", "_law_kinds_here", "_law_at", "_law_k", "_law_start", "_law_end"]
theorem sc_lawKinds : FnScope N_lawKinds ["_law_rules", "_law_text"] (C8.fnScope s_lawKinds) := C8.fnScope_by (by decide +kernel)
abbrev s_weight : Stmt := topS 46
def N_weight : List Str := ["_law_rules", "_law_found", "_law_kind", "_law_mark", "_law_close", "_law_deep", "_law_escape", "_law_doubled", "_law_line", "_law_waits"]
theorem sc_weight : FnScope N_weight ["_law_rules"] (C8.fnScope s_weight) := C8.fnScope_by (by decide +kernel)
abbrev s_fedText : Stmt := topS 47
def N_fedText : List Str := ["_law_machine", "_law_signs", "_law_stands", "_law_told", "_law_sign", "_law_stand", "_law_pairs"]
theorem sc_fedText : FnScope N_fedText ["_law_machine", "_law_signs"] (C8.fnScope s_fedText) := C8.fnScope_by (by decide +kernel)
abbrev s_pairsDue : Stmt := topS 48
def N_pairsDue : List Str := ["_law_rules", "_law_text", "_law_signs", "_law_kinds_here", "_law_k"]
theorem sc_pairsDue : FnScope N_pairsDue ["_law_rules", "_law_text", "_law_signs"] (C8.fnScope s_pairsDue) := C8.fnScope_by (by decide +kernel)
abbrev s_allPairs : Stmt := topS 49
def N_allPairs : List Str := ["_law_told", "_law_found", "_law_pairs"]
theorem sc_allPairs : FnScope N_allPairs ["_law_told"] (C8.fnScope s_allPairs) := C8.fnScope_by (by decide +kernel)
abbrev s_walkRight : Stmt := topS 50
def N_walkRight : List Str := ["_law_rules", "_law_text", "_law_signs", "_law_told", "_law_ended", "_law_many", "_law_k"]
theorem sc_walkRight : FnScope N_walkRight ["_law_rules", "_law_text", "_law_signs", "_law_told", "_law_ended"] (C8.fnScope s_walkRight) := C8.fnScope_by (by decide +kernel)
abbrev s_alikeBehind : Stmt := topS 51
def N_alikeBehind : List Str := ["_law_rules", "_law_one", "_law_two", "_law_more", "_law_left", "_law_kinds_here", "_law_others"]
theorem sc_alikeBehind : FnScope N_alikeBehind ["_law_rules", "_law_one", "_law_two", "_law_more", "_law_left"] (C8.fnScope s_alikeBehind) := C8.fnScope_by (by decide +kernel)
abbrev s_law : Stmt := topS 52
def N_law : List Str := ["_law_script", "_law_pen_here", "_law_turn", "_law_rules", "_law_tongue", "_law_met", "_law_machine", "_law_most", "_law_text", "_law_hides", "_law_signs", "_law_stands", "_law_told", "_law_k", "_law_known", "_law_more", "_law_sign", "_law_row", "_law_j"]
theorem sc_law : FnScope N_law ["_law_script"] (C8.fnScope s_law) := C8.fnScope_by (by decide +kernel)
structure Tx (K : PySem.W.Frag) (w : World) (mg : Str → Option Value) : Prop where
  z_enumerate : mg "enumerate" = none
  z_max : mg "max" = none
  z_range : mg "range" = none
  z_len : mg "len" = none
  z_any : mg "any" = none
  z_sorted : mg "sorted" = none
  z_tuple : mg "tuple" = none
  z_zip : mg "zip" = none
  z_int : mg "int" = none
  z_all : mg "all" = none
  z_sum : mg "sum" = none
  z_isinstance : mg "isinstance" = none
  z_list : mg "list" = none
  z_min : mg "min" = none
  z_str : mg "str" = none
  z_set : mg "set" = none
  z_repr : mg "repr" = none
  g_CODE : ∃ d, (∃ u, mg "CODE" = some u ∧ RelV (.ref d) u) ∧ ∀ H : Hp, SqT K H d [.int (-1), .int (0), .int (0)]
  g_PLAIN_SIGN : ∃ u, mg "PLAIN_SIGN" = some u ∧ RelV (.str (S [32])) u
  g_MOST_RULES : ∃ u, mg "MOST_RULES" = some u ∧ RelV (.int 6) u
  g_LONGEST_MARK : ∃ u, mg "LONGEST_MARK" = some u ∧ RelV (.int 4) u
  g_MARK_SIGNS : ∃ u, mg "MARK_SIGNS" = some u ∧ RelV (.str (S [33, 34, 35, 36, 38, 39, 40, 41, 42, 43, 44, 45, 46, 47, 58, 59, 60, 61, 62, 63, 64, 91, 92, 93, 94, 96, 123, 124, 125, 126])) u
  g_KINDS : ∃ d, (∃ u, mg "KINDS" = some u ∧ RelV (.ref d) u) ∧ ∀ H : Hp, SqT K H d [.str "remark", .str "quote"]
  g_DEPTHS : ∃ d, (∃ u, mg "DEPTHS" = some u ∧ RelV (.ref d) u) ∧ ∀ H : Hp, SqT K H d [.str "2", .str "3", .str "4"]
  g_OPTIONS : ∃ d, (∃ u, mg "OPTIONS" = some u ∧ RelV (.ref d) u) ∧ (∀ H : Hp, SqT K H d [.str "nested", .str "escape", .str "doubled", .str "line"]) ∧ ∃ o, K.lookup d = some o ∧ o.cls = .type "tuple" ∧ o.dict = none
end Vf

set_option maxRecDepth 100000
set_option maxHeartbeats 4000000
namespace Vf
open PySem PySem.Spec PyProof.Rows L2 SX
section
variable {K : PySem.W.Frag} {C a : Addr} {H : Hp} {Q : VK} {rt : VK}
abbrev Qx (C a : Addr) (H : Hp) (Q : VK) (fs : List (Str × V)) : Prop := ∀ (d : Addr) (H2 : Hp), H d = none → d ≠ a → H2 a = some (exo a C (some d)) → H2 d = some (exd d fs) → (∀ b o, b ≠ a → H b = some o → H2 b = some o) → (∀ b, H2 b = none → H b = none) → Q .non H2
theorem inx1 {f : Str} {y : V} {σ : L2.St} (O : OexC K C) (no : ∀ g ∈ [f], PySem.W.findIn K (.ref C) g = some none) (ha : H a = some (exo a C none)) (q : Qx C a H Q ([f].zip [y]).reverse)
    (s0 : σ[0]? = some (some (.ref a))) (s1 : σ[1]? = some (some y)) : tOst K f (tVar 0) (tVar 1) { nx := fun _ h => Q .non h, rt := rt } σ H := by
  refine ⟨y, s1, .ref a, s0, a, C, rfl, O, no f (List.mem_singleton.mpr rfl), .inl ⟨ha, fun d hd nd => q d _ hd nd upd_same (by rw [upd_ne nd]; exact upd_same) (fun b o n z => by rw [upd_ne n, upd_ne (ne_of_none z hd)]; exact z) (fun b z => ?_)⟩⟩
  by_cases e1 : b = a
  · subst e1; rw [upd_same] at z; cases z
  · rw [upd_ne e1] at z
    by_cases e2 : b = d
    · subst e2; exact hd
    · rw [upd_ne e2] at z; exact z
theorem inx2 {f1 f2 : Str} {y1 y2 : V} {σ : L2.St} (O : OexC K C) (no : ∀ g ∈ [f1, f2], PySem.W.findIn K (.ref C) g = some none) (ha : H a = some (exo a C none)) (q : Qx C a H Q ([f1, f2].zip [y1, y2]).reverse) :
    σ[0]? = some (some (.ref a)) → σ[1]? = some (some y1) → σ[2]? = some (some y2) → tSeq (tOst K f1 (tVar 0) (tVar 1)) (tOst K f2 (tVar 0) (tVar 2)) { nx := fun _ h => Q .non h, rt := rt } σ H := by
  intro s0 s1 s2
  refine ⟨y1, s1, .ref a, s0, a, C, rfl, O, no f1 (by simp), .inl ⟨ha, fun d hd nd => ?_⟩⟩
  have e1 : (upd (upd H d (exd d [(f1, y1)])) a (exo a C (some d))) a = some (exo a C (some d)) := upd_same
  have e2 : (upd (upd H d (exd d [(f1, y1)])) a (exo a C (some d))) d = some (exd d [(f1, y1)]) := by rw [upd_ne nd]; exact upd_same
  refine ⟨y2, s2, .ref a, s0, a, C, rfl, O, no f2 (by simp), .inr ⟨d, [(f1, y1)], e1, e2, by show 1 ≤ 900; omega, ?_⟩⟩
  refine q d _ hd nd (by rw [upd_ne nd.symm]; exact e1) upd_same (fun b o n z => ?_) (fun b z => ?_)
  · rw [upd_ne (ne_of_none z hd), upd_ne n, upd_ne (ne_of_none z hd)]; exact z
  · by_cases g1 : b = d
    · subst g1; exact hd
    · rw [upd_ne g1] at z
      by_cases g2 : b = a
      · subst g2; rw [upd_same] at z; cases z
      · rw [upd_ne g2, upd_ne g1] at z; exact z
end
abbrev i_BadText : Stmt := (C8.clsBody (topS 11)).getD 0 (.Pass ⟨0, 0, 0, 0⟩)
theorem si_BadText : FnScope ["self", "line", "column"] ["self", "line", "column"] (C8.fnScope i_BadText) := C8.fnScope_by (by decide +kernel)
theorem ini_BadText {P : Program} {w : World} {K : PySem.W.Frag} {mg : Str → Option Value} {base : Heap} {C f : Addr} {fd : FuncData} {q : Str} (O : OexC K C) (no : ∀ f ∈ (["line", "column"] : List Str), PySem.W.findIn K (.ref C) f = some none) (F : C8.Fun K "__init__" q i_BadText f fd) : FnOk P w K mg base C8.CX0 1 f fd ["self", "line", "column"] (sp_inx C ["line", "column"]) := by
  refine C8.fn0 F si_BadText (fun vs H Q E h => ?_) (fun cdv A outer s H vs Q E hr h => ?_)
  · obtain ⟨a, ys, rfl, h, _⟩ := h; exact congrArg (· + 1) h
  refine ⟨_, (pss_cons (ps_ost (pv 0) (pv 1)) (pss_one (ps_ost (pv 0) (pv 2)))), ?_⟩
  obtain ⟨a, ys, rfl, hl, ha, q⟩ := h
  match ys, hl with
  | [y0, y1], _ =>
    exact inx2 O no ha q rfl rfl rfl
structure Es (P : Program) (w : World) (K : PySem.W.Frag) (mg : Str → Option Value) (base : Heap) (CBadText CW : Addr) : Prop where
  r_BadText : Rk P w K mg base "BadText" CBadText ["line", "column"]
  g_WorkshopError : mg "WorkshopError" = some (.ref CW)
  ex : PySem.W.exmOne K (.ref CBadText) (.ref CBadText) = some true
  ec : ExcC K CBadText
  tw : PySem.W.kitOne K (.ref CBadText) (.ref CW) = some true
  tv : PySem.W.kitOne K (.ref CBadText) (.type "ValueError") = some true
end Vf

set_option maxRecDepth 100000
set_option maxHeartbeats 4000000
namespace Vf
open PySem PySem.Spec PyProof.Rows L2 SX
section
variable {P : Program} {w : World} {K : PySem.W.Frag} {mg : Str → Option Value} {base : Heap}
/-! ### the promises -/
def spPost (p c : Addr) (m k : Nat) (H : Hp) (R : V → Hp → Prop) (Q : VK) : Prop := ∀ (H' : Hp) (v : V), Ks H H' → PenAt H' p c (m + k) → R v H' → Q v H'
def sp_pen (K : PySem.W.Frag) : Sp := fun vs H Q _ => ∃ (a : Addr) (ns : List Int), vs = [.ref a] ∧ SqL K H a (ns.map V.int) ∧ ns.length ≤ 63 ∧ ∀ (H' : Hp) (p c : Addr), Ks H H' → PenAt H' p c 0 → Q (.ref p) H'
def sp_draw : Sp := fun vs H Q _ => ∃ (p c : Addr) (m n : Nat), vs = [.ref p, .int (n : Int)] ∧ PenAt H p c m ∧ m < 1000000 ∧ 1 ≤ n ∧ n < 1073741824 ∧ ∀ (H' : Hp) (r : Nat), Ks H H' → PenAt H' p c (m + 1) → r < n → Q (.int (r : Int)) H'
def sp_pick : Sp := fun vs H Q _ => ∃ (p c : Addr) (m : Nat) (x : V), vs = [.ref p, x] ∧ PenAt H p c m ∧ m < 1000000 ∧
  ((∃ l : List Nat, x = .str (S l) ∧ 1 ≤ l.length ∧ l.length ≤ 1000000 ∧ ∀ (H' : Hp) (ch : Nat), Ks H H' → PenAt H' p c (m + 1) → ch ∈ l → Q (.str (S [ch])) H') ∨
   ∃ (a : Addr) (xs : List V), x = .ref a ∧ H a = some (.lst xs) ∧ 1 ≤ xs.length ∧ xs.length ≤ 1000000 ∧ ∀ (H' : Hp) (v : V), Ks H H' → PenAt H' p c (m + 1) → v ∈ xs → Q v H')

/-! ### a comprehension over a range whose element draws -/
theorem lc_pen {p c : Addr} {m0 n s : Nat} {te : TE} {k : Nat} {σ : L2.St} {H1 : Hp} {D : Addr} {Qd : Hp → Prop} (R : V → Hp → Prop) (stab : ∀ v H H', Tk H H' → R v H → R v H') (hk : k < σ.length) (hD : H1 D = none) (hp : PenAt H1 p c m0) (hn : n ≤ 1000000)
    (hs : ∀ (i : Nat) (H : Hp) (m : Nat) (Q : VK), i < n → PenAt H p c m → m ≤ m0 + i * s → (∀ (H' : Hp) (v : V), Ks H H' → PenAt H' p c (m + s) → R v H' → Q v H') → te ((wipe σ [k]).set k (some (.int ((0 : Int) + i)))) H Q)
    (hd : ∀ (H : Hp) (xs : List V), xs.length = n → (∀ v ∈ xs, R v H) → H D = some (.lst xs) → Ks H1 H → PenAt H p c (m0 + n * s) → Qd H) :
    ∃ W : Nat → Nat → Hp → Prop, (∃ m, W 0 m (upd H1 D (.lst []))) ∧ ∀ i m H, W i m H →
      ((Itr 0 n).stop i H ∧ Qd H) ∨ ((Itr 0 n).go i H ∧ ∃ Nx : Hp → Prop, (∀ H', Nx H' → ∃ m', m' < m ∧ W (i + 1) m' H') ∧ ∀ x H', (Itr 0 n).yld i H x H' → gName k x (wipe σ [k]) H' fun σ2 H2 => wipe σ2 [k] = wipe σ [k] ∧ tYes σ2 H2 fun b H3 =>
        if b = true then te σ2 H3 fun y H4 => ∃ acc, H4 D = some (.lst acc) ∧ acc.length < sizeLine ∧ Nx (upd H4 D (.lst (acc ++ [y]))) else Nx H3) := by
  have nD := hp.ne hD
  refine lc_range (lo := 0) (n := n) (fun i H => ∃ xs : List V, xs.length = i ∧ (∀ v ∈ xs, R v H) ∧ H D = some (.lst xs) ∧ Ks H1 H ∧ PenAt H p c (m0 + i * s)) ?_ ?_ ?_
  · exact ⟨[], rfl, (fun _ h => nomatch h), upd_same, Ks.new1 hD _, by rw [Nat.zero_mul]; exact hp.new hD⟩
  · rintro i H hi ⟨xs, e1, e2, e3, e4, e5⟩
    refine ⟨?_, ?_⟩
    · show ((σ.set k none).set k _).set k none = (σ.set k none)
      rw [List.set_set, List.set_set]
    · dsimp only [tYes]
      rw [if_pos rfl]
      refine hs i H _ _ hi e5 (Nat.le_refl _) (fun H' v k1 k2 k3 => ?_)
      refine ⟨xs, k1.lst e3, szL (by omega), xs ++ [v], by rw [List.length_append, e1]; rfl, fun u hu => ?_, upd_same, (e4.trans k1).upd hD _, ?_⟩
      · have tk : Tk H' (upd H' D (.lst (xs ++ [v]))) := (Tk.refl H').lst (k1.lst e3)
        rcases List.mem_append.mp hu with hu | hu
        · exact stab _ _ _ (k1.tk.trans tk) (e2 u hu)
        · rw [List.mem_singleton.mp hu]
          exact stab _ _ _ tk k3
      · rw [Nat.succ_mul, ← Nat.add_assoc]
        exact k2.upd nD.1 nD.2
  · rintro H ⟨xs, e1, e2, e3, e4, e5⟩
    exact hd H xs e1 e2 e3 e4 e5
/-- a list of one-sign texts -/
def Ones (P : Nat → Prop) (v : V) : Prop := ∃ ch, v = .str (S [ch]) ∧ P ch
theorem ones_of {P : Nat → Prop} : ∀ {xs : List V}, (∀ v ∈ xs, Ones P v) → ∃ t : List Nat, xs = ((t.map fun c => S [c]).map V.str) ∧ (∀ c ∈ t, P c)
  | [], _ => ⟨[], rfl, fun _ h => nomatch h⟩
  | v :: xs, h => by
    obtain ⟨t, e, ht⟩ := ones_of (xs := xs) fun u hu => h u (List.mem_cons_of_mem _ hu)
    obtain ⟨ch, e1, e2⟩ := h v (List.mem_cons_self ..)
    refine ⟨ch :: t, by rw [e1, e]; rfl, fun c hc => ?_⟩
    rcases List.mem_cons.mp hc with hc | hc
    · rw [hc]; exact e2
    · exact ht c hc
theorem joinL_ones : ∀ t : List Nat, TL.joinL [] (t.map fun c => [c]) = t
  | [] => rfl
  | [_] => rfl
  | c :: d :: t => by
    show [c] ++ ([] ++ TL.joinL [] ((d :: t).map fun c => [c])) = c :: d :: t
    rw [joinL_ones (d :: t)]
    rfl
theorem join_ones : ∀ t : List Nat, Txt.join (S []) (t.map fun c => S [c]) = S t := fun t => by
  have e : (t.map fun c => S [c]) = (t.map fun c => [c]).map S := by rw [List.map_map]; rfl
  rw [e, join_S]
  exact congrArg S (joinL_ones t)
theorem ones_len : ∀ t : List Nat, ((t.map fun c => S [c]).map (·.length)).sum = t.length
  | [] => rfl
  | c :: t => by
    have := ones_len t
    show 1 + ((t.map fun c => S [c]).map (·.length)).sum = t.length + 1
    omega
theorem ones_bound {t : List Nat} (h : t.length ≤ 1000000) : ((t.map fun c => S [c]).map (·.length)).sum + (t.map fun c => S [c]).length * (S []).length ≤ 16777216 := by
  rw [ones_len]
  show t.length + _ * 0 ≤ 16777216
  omega

theorem same_new {H0 H : Hp} {p : Addr} (s : Same H0 H) (h : H p = none) (o : HO) : Same H0 (upd H p o) := fun b u e => by
  rw [upd_ne (ne_of_none (s b u e) h)]
  exact s b u e
theorem same_upd {H0 H : Hp} {p : Addr} (s : Same H0 H) (h : H0 p = none) (o : HO) : Same H0 (upd H p o) := fun b u e => by
  rw [upd_ne (ne_of_none e h)]
  exact s b u e
theorem sz_1 : 1 ≤ sizeLine := by decide
theorem sz_2 : 2 ≤ sizeLine := by decide
theorem sz_3 : 3 ≤ sizeLine := by decide
theorem eq1 (c d : Nat) : decide (V.str (S [c]) = V.str (S [d])) = decide (c = d) := by
  by_cases h : c = d
  · subst h
    rw [decide_eq_true rfl, decide_eq_true rfl]
  · rw [decide_eq_false h]
    exact decide_eq_false fun z => h (List.cons.inj (S_inj (V.str.inj z))).1
def isS (c : Nat) : Bool := decide (c ∈ signsL)
def NotStr (K : PySem.W.Frag) (H : Hp) (x : V) : Prop := ∃ t, TyX K H x t ∧ PySem.W.kitOne K t (.type "str") = some false
theorem ifT {A B : Prop} (h : A) : if (true : Bool) = true then A else B := by rw [if_pos rfl]; exact h
theorem ifF {A B : Prop} (h : B) : if (false : Bool) = true then A else B := by rw [if_neg Bool.false_ne_true]; exact h
/-! ### words of rules -/
def mkL : List Nat := [33, 34, 35, 36, 38, 39, 40, 41, 42, 43, 44, 45, 46, 47, 58, 59, 60, 61, 62, 63, 64, 91, 92, 93, 94, 96, 123, 124, 125, 126]
def isMk (w : Str) : Bool := decide (1 ≤ w.length) && (decide (w.length ≤ 4) && (TL.tl w).all fun c => decide (c ∈ mkL))
def OPTS : List Str := ["nested", "escape", "doubled", "line"]
def optB (ah : List Str) (w : Str) : Bool :=
  if (ah.drop 4).getLast? = some ("nested" : Str) then decide (w ∈ (["2", "3", "4"] : List Str))
  else if (ah.drop 4).getLast? = some ("escape" : Str) then decide (w.length = 1) && isMk w
  else if ("line" : Str) ∈ ah.drop 4 then false
  else if w = "line" then decide (ah.getD 3 "" ≠ "line")
  else if ("doubled" : Str) ∈ ah.drop 4 then false
  else if w = "doubled" then decide (ah.getD 3 "" ≠ "line") && decide (("nested" : Str) ∉ ah.drop 4)
  else if w = "escape" then decide (("escape" : Str) ∉ ah.drop 4)
  else decide (w = "nested") && (decide (ah.drop 4 = []) && (decide (ah.getD 0 "" = "remark") && (decide (ah.getD 3 "" ≠ "line") && decide (ah.getD 3 "" ≠ ah.getD 1 ""))))
/-- what the program asks -/
def optP (ah : List Str) (w : Str) : Bool :=
  if w ∉ OPTS then false
  else if (OPTS.drop (OPTS.idxOf w)).any (fun o => decide (o ∈ ah.drop 4)) = true then false
  else if w = "escape" then true
  else if w = "nested" then decide (ah.getD 0 "" = "remark") && !(decide (ah.getD 3 "" ∈ ([("line" : Str), ah.getD 1 ""] : List Str)))
  else decide (ah.getD 3 "" ≠ "line") && !(decide (w = "doubled") && decide (("nested" : Str) ∈ ah.drop 4))
def FirstOk (ah : List Str) : Prop := ∀ o, (ah.drop 4)[0]? = some o → o ∈ OPTS
theorem optP_eq {ah : List Str} {w : Str} (h : FirstOk ah) (h1 : (ah.drop 4).getLast? ≠ some ("nested" : Str)) (h2 : (ah.drop 4).getLast? ≠ some ("escape" : Str)) : optP ah w = optB ah w := by
  have fst : ∀ {g : List Str}, (∀ o, g[0]? = some o → o ∈ OPTS) → g ≠ [] → ("nested" : Str) ∈ g ∨ ("escape" : Str) ∈ g ∨ ("doubled" : Str) ∈ g ∨ ("line" : Str) ∈ g := by
    intro g hg hn
    cases g with
    | nil => exact absurd rfl hn
    | cons o r =>
      have := hg o rfl
      simp only [OPTS, List.mem_cons, List.not_mem_nil, or_false] at this
      rcases this with rfl | rfl | rfl | rfl
      · exact .inl (.head _)
      · exact .inr (.inl (.head _))
      · exact .inr (.inr (.inl (.head _)))
      · exact .inr (.inr (.inr (.head _)))
  unfold FirstOk at h
  unfold optP optB
  rw [if_neg h1, if_neg h2]
  generalize ah.drop 4 = g at h h1 h2 ⊢
  generalize ah.getD 3 "" = a3
  generalize ah.getD 1 "" = a1
  generalize ah.getD 0 "" = a0
  have d0 : OPTS.drop (OPTS.idxOf ("nested" : Str)) = (["nested", "escape", "doubled", "line"] : List Str) := by decide +kernel
  have d1 : OPTS.drop (OPTS.idxOf ("escape" : Str)) = (["escape", "doubled", "line"] : List Str) := by decide +kernel
  have d2 : OPTS.drop (OPTS.idxOf ("doubled" : Str)) = (["doubled", "line"] : List Str) := by decide +kernel
  have d3 : OPTS.drop (OPTS.idxOf ("line" : Str)) = (["line"] : List Str) := by decide +kernel
  have n1 : ("escape" : Str) ≠ "line" := by decide +kernel
  have n2 : ("escape" : Str) ≠ "doubled" := by decide +kernel
  have n3 : ("nested" : Str) ≠ "line" := by decide +kernel
  have n4 : ("nested" : Str) ≠ "doubled" := by decide +kernel
  have n5 : ("nested" : Str) ≠ "escape" := by decide +kernel
  have n6 : ("doubled" : Str) ≠ "line" := by decide +kernel
  by_cases m : w ∈ OPTS
  · rw [if_neg (by simpa using m)]
    have m' := m
    simp only [OPTS, List.mem_cons, List.not_mem_nil, or_false] at m'
    rcases m' with rfl | rfl | rfl | rfl
    · rw [d0]
      by_cases hg : g = []
      · subst hg
        simp [n3, n4, n5]
      · have f := fst h hg
        have e : (["nested", "escape", "doubled", "line"] : List Str).any (fun o => decide (o ∈ g)) = true := by simpa using f
        rw [if_pos e]
        simp [n3, n4, n5, hg]
    · rw [d1]
      by_cases c1 : ("line" : Str) ∈ g
      · simp [c1]
      · by_cases c2 : ("doubled" : Str) ∈ g
        · simp [c1, c2, n1]
        · by_cases c3 : ("escape" : Str) ∈ g <;> simp [c1, c2, c3, n1, n2]
    · rw [d2]
      by_cases c1 : ("line" : Str) ∈ g
      · simp [c1]
      · by_cases c2 : ("doubled" : Str) ∈ g
        · simp [c1, c2, n6]
        · simp [c1, c2, n6, n2.symm, n4.symm]
    · rw [d3]
      by_cases c1 : ("line" : Str) ∈ g
      · simp [c1]
      · simp [c1, n1.symm, n3.symm, n6.symm]
  · rw [if_pos m]
    have m' := m
    simp only [OPTS, List.mem_cons, List.not_mem_nil, or_false, not_or] at m'
    obtain ⟨x1, x2, x3, x4⟩ := m'
    simp [x1, x2, x3, x4]
def canB (ah : List Str) (w : Str) (os : List Str) : Bool :=
  if ah.length = 0 then decide (w ∈ (["remark", "quote"] : List Str))
  else if ah.length = 1 then isMk w && !(decide (w ∈ os))
  else if ah.length = 2 then decide (w = "to")
  else if ah.length = 3 then decide (w = "line") || isMk w
  else optB ah w
def Vd (ws os : List Str) : Prop := ∀ (i : Nat) (w : Str), ws[i]? = some w → canB (ws.take i) w os = true
theorem vd_nil (os : List Str) : Vd [] os := fun i w h => by cases i <;> cases h
theorem vd_snoc {ws os : List Str} {w : Str} (h : Vd ws os) (c : canB ws w os = true) : Vd (ws ++ [w]) os := fun i u hu => by
  rcases Nat.lt_or_ge i ws.length with hi | hi
  · rw [List.getElem?_append_left hi] at hu
    rw [List.take_append_of_le_length (Nat.le_of_lt hi)]
    exact h i u hu
  · rw [List.getElem?_append_right hi] at hu
    have e : i = ws.length := by
      have := (List.getElem?_eq_some_iff.mp hu).1
      rw [List.length_singleton] at this
      omega
    subst e
    rw [Nat.sub_self] at hu
    cases hu
    rw [List.take_left]
    exact c
theorem mk_letters {w : Str} (h : isMk w = true) : w ≠ "nested" ∧ w ≠ "escape" ∧ w ≠ "line" := by
  refine ⟨fun z => ?_, fun z => ?_, fun z => ?_⟩ <;> subst z <;> revert h <;> decide +kernel
theorem vd_at {ws os : List Str} (h : Vd ws os) {i : Nat} (hi : i < ws.length) : canB (ws.take i) ws[i] os = true := h i _ (List.getElem?_eq_getElem hi)
theorem vd_3 {ws os : List Str} (h : Vd ws os) (hl : 4 ≤ ws.length) : ws[3] = "line" ∨ isMk ws[3] = true := by
  have c := vd_at h (i := 3) (by omega)
  unfold canB at c
  have e : (ws.take 3).length = 3 := by rw [List.length_take]; omega
  rw [e, if_neg (by decide), if_neg (by decide), if_neg (by decide), if_pos rfl, Bool.or_eq_true, decide_eq_true_eq] at c
  exact c
theorem vd_first {ws os : List Str} (h : Vd ws os) : FirstOk ws := fun o ho => by
  rw [List.getElem?_drop] at ho
  have hi := (List.getElem?_eq_some_iff.mp ho).1
  have c := h _ _ ho
  unfold canB at c
  have e : (ws.take (4 + 0)).length = 4 := by rw [List.length_take]; omega
  rw [e, if_neg (by decide), if_neg (by decide), if_neg (by decide), if_neg (by decide)] at c
  have e0 : (ws.take (4 + 0)).drop 4 = [] := List.drop_eq_nil_of_le (by omega)
  unfold optB at c
  rw [e0, if_neg (by simp), if_neg (by simp), if_neg (by simp)] at c
  unfold OPTS
  by_cases c1 : o = "line"
  · subst c1; simp
  · rw [if_neg c1, if_neg (by simp)] at c
    by_cases c2 : o = "doubled"
    · subst c2; simp
    · rw [if_neg c2] at c
      by_cases c3 : o = "escape"
      · subst c3; simp
      · rw [if_neg c3, Bool.and_eq_true, decide_eq_true_eq] at c
        rw [c.1]; simp
/-- the last word, told as the program and the law ask it -/
theorem last_drop {ws : List Str} (hl : 4 < ws.length) : (ws.drop 4).getLast? = ws.getLast? := by
  rw [List.getLast?_drop, if_neg (by omega)]
theorem vd_last {ws os : List Str} (h : Vd ws os) (hl : 4 ≤ ws.length) {o : Str} (ho : o = "nested" ∨ o = "escape") : (ws.getLast? = some o) ↔ (ws.drop 4).getLast? = some o := by
  rcases Nat.lt_or_ge 4 ws.length with g | g
  · rw [last_drop g]
  · have e : ws.length = 4 := by omega
    have e0 : ws.drop 4 = [] := List.drop_eq_nil_of_le g
    rw [e0]
    refine ⟨fun z => ?_, fun z => by cases z⟩
    rw [List.getLast?_eq_getElem?, e] at z
    have := (List.getElem?_eq_some_iff.mp z).2
    have q := vd_3 h hl
    have z3 : ws[3] = o := this
    rw [z3] at q
    rcases q with q | q
    · rcases ho with rfl | rfl <;> revert q <;> decide +kernel
    · have := mk_letters q
      rcases ho with rfl | rfl
      · exact absurd rfl this.1
      · exact absurd rfl this.2.1
/-! ### a line of a tongue -/
def spS (l : Str) : List Str := Txt.split l (" " : Str)
def wcGo (os : List Str) : List Str → List Str → Nat → Option Nat
  | _, [], _ => none
  | ah, w :: r, c => if canB ah w os = true then wcGo os (ah ++ [w]) r (c + (w.length + 1)) else some c
def wcol (l : Str) (os : List Str) : Option Nat :=
  match wcGo os [] (spS l) 1 with
  | some c => some c
  | none => if (spS l).length < 4 ∨ (spS l).getLast? = some ("nested" : Str) ∨ (spS l).getLast? = some ("escape" : Str) then some (l.length + 1) else none
theorem wcGo_vd {os : List Str} : ∀ {r ah : List Str} {c : Nat}, wcGo os ah r c = none → Vd ah os → Vd (ah ++ r) os
  | [], ah, c, _, h => by rw [List.append_nil]; exact h
  | w :: r, ah, c, e, h => by
    unfold wcGo at e
    by_cases q : canB ah w os = true
    · rw [if_pos q] at e
      have := wcGo_vd e (vd_snoc h q)
      rwa [List.append_assoc] at this
    · rw [if_neg q] at e; cases e
def CV (ws os : List Str) : Prop := Vd ws os ∧ 4 ≤ ws.length ∧ ws.getLast? ≠ some ("nested" : Str) ∧ ws.getLast? ≠ some ("escape" : Str)
theorem wcol_cv {l : Str} {os : List Str} (h : wcol l os = none) : CV (spS l) os := by
  unfold wcol at h
  cases e : wcGo os [] (spS l) 1 with
  | some c => rw [e] at h; cases h
  | none =>
    rw [e] at h
    dsimp only at h
    split at h
    · cases h
    · rename_i q
      rw [not_or, not_or] at q
      have := wcGo_vd e (vd_nil os)
      rw [List.nil_append] at this
      exact ⟨this, by omega, q.2.1, q.2.2⟩
def opn (l : Str) : Str := (spS l).getD 1 ""
def fwGo : Nat → List Str → List Str → Option (Nat × Nat)
  | _, [], _ => none
  | k, l :: r, os => if 6 ≤ k then some (k + 1, 1) else match wcol l os with
    | some c => some (k + 1, c)
    | none => fwGo (k + 1) r (os ++ [opn l])
def fw (ls : List Str) : Option (Nat × Nat) := fwGo 0 ls []
def lnsOf (t : Str) : List Str := if t = "" then [] else Txt.split t ("\n" : Str)
/-! ### texts with bounds -/
def GoodS (n : Nat) (z : Str) : Prop := z.length ≤ n ∧ ∀ c ∈ TL.tl z, c ≠ 10 ∧ c < 1000
theorem GoodS.mono {n m : Nat} {z : Str} (h : GoodS n z) (l : n ≤ m) : GoodS m z := ⟨Nat.le_trans h.1 l, h.2⟩
def LnOk (ls : List Str) : Prop := ls.length ≤ 100 ∧ ∀ l ∈ ls, GoodS 1000 l
/-! ### heaps: all but tables stays -/
def ExX (a : Addr) (H H' : Hp) : Prop := ∀ b o, b ≠ a → H b = some o → (∀ ps, o ≠ .tbl ps) → H' b = some o
abbrev lamQ : Str := ("longest_first" ++ ".<locals>." : Str) ++ "<lambda>"
abbrev T0 (P0 : Addr) : List (Addr × Str) := [(P0, lamQ)]
/-! ### the promises -/
def sp_isMark : Sp := fun vs H Q _ => ∃ w : Str, vs = [.str w] ∧ w.length ≤ 1000 ∧ ∀ H', Same H H' → Q (.bl (isMk w)) H'
def ChOk (w : Str) : Prop := ∀ c ∈ TL.tl w, c < 1000
def sp_lawIsMark : Sp := fun vs H Q _ => ∃ w : Str, vs = [.str w] ∧ w.length ≤ 1000 ∧ ChOk w ∧ ∀ H', Same H H' → Q (.bl (isMk w)) H'
def sp_optionCanStand (K : PySem.W.Frag) : Sp := fun vs H Q _ => ∃ (a : Addr) (ws : List Str) (w : Str), vs = [.ref a, .str w] ∧ SqL K H a (ws.map V.str) ∧ 4 ≤ ws.length ∧ ws.length ≤ 2000 ∧ FirstOk ws ∧ (ws.drop 4).getLast? ≠ some ("nested" : Str) ∧ (ws.drop 4).getLast? ≠ some ("escape" : Str) ∧ w.length ≤ 1000 ∧ ∀ H', Same H H' → Q (.bl (optB ws w)) H'
def sp_optionStands (K : PySem.W.Frag) : Sp := fun vs H Q _ => ∃ (a : Addr) (ws : List Str) (w : Str), vs = [.ref a, .str w] ∧ SqL K H a (ws.map V.str) ∧ 4 ≤ ws.length ∧ ws.length ≤ 2000 ∧ (∀ x ∈ ws, ChOk x) ∧ w.length ≤ 1000 ∧ ChOk w ∧ ∀ H', Same H H' → Q (.bl (optB ws w)) H'
def sp_canStand (K : PySem.W.Frag) : Sp := fun vs H Q _ => ∃ (a o : Addr) (ws os : List Str) (w : Str), vs = [.ref a, .str w, .ref o] ∧ SqL K H a (ws.map V.str) ∧ SqL K H o (os.map V.str) ∧ Vd ws os ∧ ws.length ≤ 2000 ∧ w.length ≤ 1000 ∧ ∀ H', Same H H' → Q (.bl (canB ws w os)) H'
def sp_wordStands (K : PySem.W.Frag) : Sp := fun vs H Q _ => ∃ (a o : Addr) (ws os : List Str) (w : Str), vs = [.ref a, .str w, .ref o] ∧ SqL K H a (ws.map V.str) ∧ SqL K H o (os.map V.str) ∧ ws.length ≤ 2000 ∧ (∀ x ∈ ws, ChOk x) ∧ w.length ≤ 1000 ∧ ChOk w ∧ ∀ H', Same H H' → Q (.bl (canB ws w os)) H'
def colV (d : V) : Option Nat → V
  | some c => .int (c : Int)
  | none => d
def sp_wrongColumn (K : PySem.W.Frag) : Sp := fun vs H Q _ => ∃ (o : Addr) (os : List Str) (l : Str), vs = [.str l, .ref o] ∧ SqL K H o (os.map V.str) ∧ l.length ≤ 1000 ∧ ∀ H', Same H H' → Q (colV .non (wcol l os)) H'
def sp_lawWrongColumn (K : PySem.W.Frag) : Sp := fun vs H Q _ => ∃ (o : Addr) (os : List Str) (l : Str), vs = [.str l, .ref o] ∧ SqL K H o (os.map V.str) ∧ GoodS 1000 l ∧ ∀ H', Same H H' → Q (colV (.int 0) (wcol l os)) H'
def fwV (H : Hp) (v : V) : Option (Nat × Nat) → Prop
  | none => v = .non
  | some p => ∃ b, v = .ref b ∧ H b = some (.tup [.int (p.1 : Int), .int (p.2 : Int)])
def sp_firstWrong (K : PySem.W.Frag) : Sp := fun vs H Q _ => ∃ (a : Addr) (ls : List Str), vs = [.ref a] ∧ SqL K H a (ls.map V.str) ∧ LnOk ls ∧ ∀ H' v, Same H H' → fwV H' v (fw ls) → Q v H'
/-! ### rules -/
def ruF (k op cl : Str) (nd : Nat) (es : Str) (db ln : Bool) : List (Str × V) := [("kind", .str k), ("opener", .str op), ("closer", .str cl), ("nested", .int (nd : Int)), ("escape", .str es), ("doubled", .bl db), ("line", .bl ln)]
def RuG (CR : Addr) (H : Hp) (v : V) : Prop := ∃ (a dx : Addr) (k op cl : Str) (nd : Nat) (es : Str) (db ln : Bool), v = .ref a ∧ H a = some (.ins CR dx (ruF k op cl nd es db ln)) ∧ op.length ≤ 4 ∧ cl.length ≤ 4 ∧ nd ≤ 4 ∧ es.length ≤ 4
def sp_Rule_init (K : PySem.W.Frag) (CR : Addr) : Sp := fun vs H Q _ => ∃ (a dx wa : Addr) (ws os : List Str), vs = [.ref a, .ref wa] ∧ H a = some (.ins CR dx []) ∧ SqL K H wa (ws.map V.str) ∧ CV ws os ∧ ws.length ≤ 2000 ∧
  ∀ (k cl : Str) (nd : Nat) (es : Str) (db ln : Bool), cl.length ≤ 4 → nd ≤ 4 → es.length ≤ 4 → ∀ H', (∀ b o, b ≠ a → H b = some o → H' b = some o) → H' a = some (.ins CR dx (ruF k (ws.getD 1 "") cl nd es db ln)) → Q .non H'
def ErT (CT : Addr) (H : Hp) (p : Nat × Nat) (E : XK) : Prop := ∀ (d : Addr) (H' : Hp), Same H H' → H' d = some (.xd [("column", .int (p.2 : Int)), ("line", .int (p.1 : Int))]) → E (.ref CT) (some d) H'
def sp_readRules (CR CT : Addr) : Sp := fun vs H Q E => ∃ t : Str, vs = [.str t] ∧ t.length ≤ 100000 ∧ LnOk (lnsOf t) ∧
  (fw (lnsOf t) = none → ∀ (H' : Hp) (b : Addr) (rs : List V), Same H H' → H' b = some (.tup rs) → rs.length ≤ 6 → (∀ r ∈ rs, RuG CR H' r) → Q (.ref b) H') ∧ ∀ p, fw (lnsOf t) = some p → ErT CT H p E
def sp_ruleWeight (CR : Addr) : Sp := fun vs H Q _ => ∃ v, vs = [v] ∧ RuG CR H v ∧ ∀ (i : Int) H', Same H H' → Q (.int i) H'
def MkG (K : PySem.W.Frag) (H : Hp) (v : V) : Prop := ∃ (t : Addr) (x : Str) (u : V), v = .ref t ∧ H t = some (.tup [.str x, u]) ∧ x.length ≤ 100
def sp_pieceMarks (K : PySem.W.Frag) (CR : Addr) : Sp := fun vs H Q _ => ∃ (v : V) (n d : Nat), vs = [v, .int (n : Int), .int (d : Int)] ∧ RuG CR H v ∧ ∀ (H' : Hp) (L : Addr) (ms : List V), Same H H' → H L = none → H' L = some (.lst ms) → ms.length ≤ 3 → (∀ m ∈ ms, MkG K H' m) → Q (.ref L) H'
def sp_longestFirst (K : PySem.W.Frag) (P0 : Addr) : Sp := fun vs H Q _ => ∃ (a : Addr) (xs : List V), vs = [.ref a] ∧ SqL K H a xs ∧ xs.length < 64 ∧ (∀ x ∈ xs, MkG K H x) ∧ LamX.Tabs (T0 P0) H ∧ ∀ (H' : Hp) (v : V), LamX.ExtN H H' → LamX.Tabs (T0 P0) H' → Q v H'
def sp_Reader_init (K : PySem.W.Frag) (CR CD P0 : Addr) : Sp := fun vs H Q _ => ∃ (a dx b : Addr) (rs : List V), vs = [.ref a, .ref b] ∧ H a = some (.ins CD dx []) ∧ H b = some (.tup rs) ∧ rs.length ≤ 6 ∧ (∀ r ∈ rs, RuG CR H r) ∧ LamX.Tabs (T0 P0) H ∧
  ∀ H' : Hp, ExX a H H' → LamX.Tabs (T0 P0) H' → Q .non H'
def tgF (t : Str) (rt : Addr) (wi : Int) (rd : Addr) : List (Str × V) := [("text", .str t), ("rules", .ref rt), ("weight", .int wi), ("reader", .ref rd)]
def TgAt (CG : Addr) (H : Hp) (a : Addr) (t : Str) : Prop := ∃ (dx rt : Addr) (wi : Int) (rd : Addr), H a = some (.ins CG dx (tgF t rt wi rd)) ∧ H rt = some (.tup ((lnsOf t).map V.str))
def sp_Tongue_init (CG CT P0 : Addr) : Sp := fun vs H Q E => ∃ (a dx : Addr) (t : Str), vs = [.ref a, .str t] ∧ H a = some (.ins CG dx []) ∧ t.length ≤ 100000 ∧ LnOk (lnsOf t) ∧ LamX.Tabs (T0 P0) H ∧
  (fw (lnsOf t) = none → ∀ H' : Hp, ExX a H H' → LamX.Tabs (T0 P0) H' → TgAt CG H' a t → Q .non H') ∧ ∀ p, fw (lnsOf t) = some p → ErT CT H p E
def sp_Tongue_len (CG : Addr) : Sp := fun vs H Q _ => ∃ (a : Addr) (t : Str), vs = [.ref a] ∧ TgAt CG H a t ∧ (lnsOf t).length ≤ 100 ∧ Q (.int ((lnsOf t).length : Int)) H
def EqG (CG : Addr) (a b : Addr) (r : Bool) (H : Hp) : Prop := ∃ t u, TgAt CG H a t ∧ TgAt CG H b u ∧ r = decide (t = u)
def sp_Tongue_eq (CG : Addr) : Sp := spEqI (EqG CG)
def sp_toldTongue (K : PySem.W.Frag) (P0 : Addr) : Sp := fun vs H Q _ => ∃ (t : Str) (a : Addr), vs = [.str t, .ref a] ∧ SqL K H a ((lnsOf t).map V.str) ∧ t.length ≤ 100000 ∧ LnOk (lnsOf t) ∧ LamX.Tabs (T0 P0) H ∧
  ∀ (H' : Hp) (v : V), LamX.ExtN H H' → LamX.Tabs (T0 P0) H' → fwV H' v (fw (lnsOf t)) → Q v H'
/-! ### the law's drawing -/
def one (c : Nat) : V := .str (S [c])
def SgOk (l : List Nat) : Prop := 1 ≤ l.length ∧ l.length ≤ 100 ∧ ∀ c ∈ l, c ≠ 10 ∧ c < 1000
def sp_markSigns : Sp := fun vs H Q _ => vs = [] ∧ ∀ (H' : Hp) (a : Addr), Same H H' → H a = none → H' a = some (.lst (mkL.map one)) → Q (.ref a) H'
def sp_allSigns : Sp := fun vs H Q _ => vs = [] ∧ ∀ (H' : Hp) (a : Addr) (l : List Nat), Same H H' → H a = none → SgOk l → H' a = some (.lst (l.map one)) → Q (.ref a) H'
def sp_lawWord : Sp := fun vs H Q _ => ∃ (p c a : Addr) (m n : Nat) (l : List Nat), vs = [.ref p, .ref a, .int (n : Int)] ∧ PenAt H p c m ∧ m < 900000 ∧ H a = some (.lst (l.map one)) ∧ SgOk l ∧ 1 ≤ n ∧ n ≤ 10 ∧
  ∀ (H' : Hp) (t : List Nat), Ks H H' → PenAt H' p c (m + 1 + n) → 1 ≤ t.length → t.length ≤ n → (∀ x ∈ t, x ∈ l) → Q (.str (S t)) H'
def sp_some : Sp := fun vs H Q _ => ∃ (p c a : Addr) (m n : Nat) (l : List Nat), vs = [.ref p, .ref a, .int (n : Int)] ∧ PenAt H p c m ∧ m < 900000 ∧ H a = some (.lst (l.map one)) ∧ 1 ≤ n ∧ n ≤ 10 ∧ n ≤ l.length ∧ l.length ≤ 100 ∧
  ∀ (H' : Hp) (b : Addr) (t : List Nat), Ks H H' → PenAt H' p c (m + n) → H' b = some (.lst (t.map one)) → t.length = n → (∀ x ∈ t, x ∈ l) → Q (.ref b) H'
def r7 (k o c : Str) (d : Nat) (e : Str) (b1 b2 : Bool) : List V := [.str k, .str o, .str c, .int (d : Int), .str e, .bl b1, .bl b2]
def R7 (v : V) (H : Hp) : Prop := ∃ (a : Addr) (k o c : Str) (d : Nat) (e : Str) (b1 b2 : Bool), v = .ref a ∧ H a = some (.tup (r7 k o c d e b1 b2)) ∧ GoodS 8 k ∧ GoodS 8 o ∧ GoodS 8 c ∧ d ≤ 4 ∧ GoodS 8 e
theorem R7.tk {v : V} {H H' : Hp} (h : R7 v H) (s : Tk H H') : R7 v H' := let ⟨a, k, o, c, d, e, b1, b2, h1, h2, h3⟩ := h; ⟨a, k, o, c, d, e, b1, b2, h1, s _ _ h2, h3⟩
def sp_newRule : Sp := fun vs H Q _ => ∃ (p c a : Addr) (m : Nat) (o : Str) (l : List Nat), vs = [.ref p, .str o, .ref a, .int 4] ∧ PenAt H p c m ∧ m < 800000 ∧ GoodS 8 o ∧ H a = some (.lst (l.map one)) ∧ SgOk l ∧
  ∀ (H' : Hp) (v : V), Ks H H' → PenAt H' p c (m + 20) → R7 v H' → Q v H'
def sp_newRules : Sp := fun vs H Q _ => ∃ (p c : Addr) (m n : Nat), vs = [.ref p, .int (n : Int), .int 4] ∧ PenAt H p c m ∧ m < 700000 ∧ 1 ≤ n ∧ n ≤ 8 ∧
  ∀ (H' : Hp) (b : Addr) (rs : List V), Ks H H' → PenAt H' p c (m + 400) → H' b = some (.lst rs) → 1 ≤ rs.length → rs.length ≤ 8 → (∀ r ∈ rs, R7 r H') → Q (.ref b) H'
def sp_ruleLine : Sp := fun vs H Q _ => ∃ v, vs = [v] ∧ R7 v H ∧ ∀ (H' : Hp) (z : Str), Same H H' → GoodS 100 z → Q (.str z) H'
def sp_oddWords : Sp := fun vs H Q _ => ∃ (a : Addr) (ms : List Str), vs = [.ref a] ∧ H a = some (.lst (ms.map V.str)) ∧ ms.length ≤ 8 ∧ (∀ z ∈ ms, GoodS 10 z) ∧
  ∀ (H' : Hp) (b : Addr) (zs : List Str), Same H H' → H' b = some (.lst (zs.map V.str)) → 1 ≤ zs.length → zs.length ≤ 100 → (∀ z ∈ zs, GoodS 10 z) → Q (.ref b) H'
def sp_spoiled : Sp := fun vs H Q _ => ∃ (p c a b : Addr) (m n : Nat) (ls ms : List Str), vs = [.ref p, .ref a, .ref b] ∧ PenAt H p c m ∧ m < 800000 ∧ H a = some (.lst (ls.map V.str)) ∧ H b = some (.lst (ms.map V.str)) ∧ ms.length ≤ 8 ∧ (∀ z ∈ ms, GoodS 10 z) ∧
  1 ≤ ls.length ∧ ls.length ≤ 50 ∧ n ≤ 500 ∧ (∀ z ∈ ls, GoodS n z) ∧
  ∀ (H' : Hp) (d : Addr) (zs : List Str), Ks H H' → PenAt H' p c (m + 10) → H' d = some (.lst (zs.map V.str)) → 1 ≤ zs.length → zs.length ≤ ls.length + 1 → (∀ z ∈ zs, GoodS (n + 20) z) → Q (.ref d) H'
def sp_law (K : PySem.W.Frag) (P0 : Addr) : Sp := fun vs H Q _ => ∃ (a : Addr) (ns : List Int), vs = [.ref a] ∧ SqL K H a (ns.map V.int) ∧ ns.length ≤ 63 ∧ H P0 = some (.tbl #[]) ∧ ∀ H', Q (.bl true) H'
/-! ### the classes -/
structure Ca (K : PySem.W.Frag) (CR CD CG : Addr) : Prop where
  iR : C8.InsC K CR
  iD : C8.InsC K CD
  iG : C8.InsC K CG
  r1 : NoAttr K CR "kind"
  r2 : NoAttr K CR "opener"
  r3 : NoAttr K CR "closer"
  r4 : NoAttr K CR "nested"
  r5 : NoAttr K CR "escape"
  r6 : NoAttr K CR "doubled"
  r7 : NoAttr K CR "line"
  d1 : NoAttr K CD "parts"
  d2 : NoAttr K CD "_marks"
  g1 : NoAttr K CG "text"
  g2 : NoAttr K CG "rules"
  g3 : NoAttr K CG "weight"
  g4 : NoAttr K CG "reader"
structure Eqc (P : Program) (w : World) (K : PySem.W.Frag) (mg : Str → Option Value) (base : Heap) (k : Nat) (C : Addr) (R : Addr → Addr → Bool → Hp → Prop) : Prop where
  ex : ∃ (f : Addr) (fd : FuncData) (ps : List Str), OwnC K C f ∧ FnOk P w K mg base C8.CX0 k f fd ps (spEqI R) ∧ Binds K fd ps []
section
variable {X : Cx} {C : Addr} {R : Addr → Addr → Bool → Hp → Prop} {k j : Nat}
theorem op_eqC (c : Eqc X.prog X.w X.K X.mg X.base k C R) (hr : Room j X.A) (hj : k ≤ j) : OpR X (compareOp .Eq) (rEqI C false R) := by
  obtain ⟨f, fd, ps, O, F, b⟩ := c.ex
  exact op_eqI O F b hr hj
theorem op_eqI2 (c : Eqc X.prog X.w X.K X.mg X.base k C R) (hr : Room j X.A) (hj : k ≤ j) {r : R2} (hu : OpR X (compareOp .Eq) r) : OpR X (compareOp .Eq) (fun x y H Q => r x y H Q ∨ rEqI C false R x y H Q) := op_alt hu (op_eqC c hr hj)
end

end
end Vf

set_option maxRecDepth 100000
set_option maxHeartbeats 4000000
namespace Vf
open PySem PySem.Spec PyProof.Rows L2 SX
section
variable {P : Program} {w : World} {K : PySem.W.Frag} {mg : Str → Option Value} {base : Heap}
theorem ify {c : Bool} {A B : Prop} (h : c = true) (x : A) : if c = true then A else B := by rw [if_pos h]; exact x
theorem ifn {c : Bool} {A B : Prop} (h : c = false) (x : B) : if c = true then A else B := by rw [if_neg (by rw [h]; exact Bool.false_ne_true)]; exact x
theorem cut_to (xs : List V) (n : Nat) : cutV xs none (some (n : Int)) = xs.take n := by
  unfold cutV
  rw [HT.sIx_nat, HT.sIx_none]
  show (xs.take (min n xs.length - 0)) = _
  rw [Nat.sub_zero]
  by_cases h : n ≤ xs.length
  · rw [Nat.min_eq_left h]
  · rw [Nat.min_eq_right (by omega), List.take_of_length_le (Nat.le_refl _), List.take_of_length_le (by omega)]
theorem cut_from (xs : List V) (n : Nat) : cutV xs (some (n : Int)) none = xs.drop n := by
  unfold cutV
  rw [HT.sIx_nat, HT.sIx_none]
  by_cases h : n ≤ xs.length
  · rw [Nat.min_eq_left h, List.take_of_length_le (by rw [List.length_drop]; omega)]
  · rw [Nat.min_eq_right (by omega), List.drop_eq_nil_of_le (Nat.le_refl _), List.drop_eq_nil_of_le (by omega), List.take_nil]
theorem inV_strs (w : Str) (l : List Str) : inV (.str w) (l.map V.str) = decide (w ∈ l) := by
  unfold inV
  rw [List.any_map]
  by_cases h : w ∈ l
  · rw [decide_eq_true h]
    exact List.any_eq_true.mpr ⟨w, h, by show (w == w) = true; exact beq_self_eq_true _⟩
  · rw [decide_eq_false h]
    refine List.any_eq_false.mpr fun y hy => ?_
    show ¬ (y == w) = true
    intro z
    rw [beq_iff_eq] at z
    exact h (z ▸ hy)
theorem flat_strs (l : List Str) : (l.map V.str).all flatV = true := List.all_eq_true.mpr fun x hx => by
  obtain ⟨w, _, rfl⟩ := List.mem_map.mp hx
  rfl
theorem dS (a b : Str) : decide (V.str a = V.str b) = decide (a = b) := decide_eq_decide.mpr ⟨fun z => V.str.inj z, fun z => by rw [z]⟩
theorem dI (a b : Int) : decide (V.int a = V.int b) = decide (a = b) := decide_eq_decide.mpr ⟨fun z => V.int.inj z, fun z => by rw [z]⟩
theorem dB (a b : Bool) : decide (V.bl a = V.bl b) = decide (a = b) := decide_eq_decide.mpr ⟨fun z => V.bl.inj z, fun z => by rw [z]⟩
theorem at_strs {ws : List Str} {i : Nat} (h : i < ws.length) : atI (ws.map V.str) ((i : Nat) : Int) = some (.str ws[i]) := atI_nat (by rw [List.getElem?_map, List.getElem?_eq_getElem h]; rfl)
theorem getD_at {ws : List Str} {i : Nat} (h : i < ws.length) : ws.getD i "" = ws[i] := by
  rw [List.getD_eq_getElem?_getD, List.getElem?_eq_getElem h]; rfl
/-! ### words -/
theorem spl_bnd (S0 : List Nat) : ∀ (l acc : List Nat) (k : Nat), (TL.spl S0 k acc l).length ≤ l.length + 1 ∧ (∀ p ∈ TL.spl S0 k acc l, p.length ≤ acc.length + l.length) ∧ 1 ≤ (TL.spl S0 k acc l).length
  | [], acc, k => by
    rw [TL.spl_nil]
    exact ⟨Nat.le_refl _, fun p hp => by rw [List.mem_singleton.mp hp]; exact Nat.le_add_right _ _, Nat.le_refl _⟩
  | c :: r, acc, 0 => by
    by_cases e : TL.pre S0 (c :: r) = true
    · rw [TL.spl_hit e]
      obtain ⟨h1, h2, h3⟩ := spl_bnd S0 r [] (S0.length - 1)
      refine ⟨by rw [List.length_cons, List.length_cons]; omega, fun p hp => ?_, by rw [List.length_cons]; omega⟩
      rcases List.mem_cons.mp hp with rfl | hp
      · exact Nat.le_add_right _ _
      · have := h2 p hp
        rw [List.length_nil] at this
        rw [List.length_cons]; omega
    · rw [TL.spl_miss (Bool.eq_false_iff.mpr e)]
      obtain ⟨h1, h2, h3⟩ := spl_bnd S0 r (acc ++ [c]) 0
      refine ⟨by rw [List.length_cons]; omega, fun p hp => ?_, h3⟩
      have := h2 p hp
      rw [List.length_append, List.length_singleton] at this
      rw [List.length_cons]; omega
  | c :: r, acc, k + 1 => by
    obtain ⟨h1, h2, h3⟩ := spl_bnd S0 r acc k
    show (TL.spl S0 k acc r).length ≤ _ ∧ (∀ p ∈ TL.spl S0 k acc r, _) ∧ 1 ≤ (TL.spl S0 k acc r).length
    exact ⟨by rw [List.length_cons]; omega, fun p hp => by have := h2 p hp; rw [List.length_cons]; omega, h3⟩
theorem split_bnd {x y : Str} (hy : TL.tl y ≠ []) (hk : ¬ Builtin.Str.strKind x < Builtin.Str.strKind y) : (Txt.split x y).length ≤ x.length + 1 ∧ (∀ w ∈ Txt.split x y, w.length ≤ x.length) ∧ 1 ≤ (Txt.split x y).length := by
  have e := TL.split_spl x y hy hk
  obtain ⟨h1, h2, h3⟩ := spl_bnd (TL.tl y) (TL.tl x) [] 0
  rw [← e, List.length_map] at h1 h3
  refine ⟨by rw [TL.len_tl x]; exact h1, fun w hw => ?_, h3⟩
  have := h2 (TL.tl w) (by rw [← e]; exact List.mem_map_of_mem hw)
  rw [List.length_nil, Nat.zero_add] at this
  rw [TL.len_tl, TL.len_tl]; exact this
theorem spS_bnd (l : Str) : (spS l).length ≤ l.length + 1 ∧ (∀ w ∈ spS l, w.length ≤ l.length) ∧ 1 ≤ (spS l).length := split_bnd (by decide +kernel) (TL.kind_ok (by decide +kernel))
/-- the lines of joined lines -/
theorem lns_join {ls : List Str} (h : ls ≠ []) (hn : ∀ l ∈ ls, ∀ c ∈ TL.tl l, c ≠ 10) : Txt.split (Txt.join ("\n" : Str) ls) ("\n" : Str) = ls := by
  refine TL.map_tl_inj ?_
  rw [TL.split_spl _ _ (by decide +kernel) (TL.kind_ok (by decide +kernel))]
  have e : TL.tl (Txt.join ("\n" : Str) ls) = TL.joinL (TL.tl ("\n" : Str)) (ls.map TL.tl) := by
    rw [TL.join_eq]
    exact TL.tl_join _ _
  rw [e, show TL.tl ("\n" : Str) = [10] from by decide +kernel]
  refine TL.spl_join (by intro z; exact h (List.map_eq_nil_iff.mp z)) fun p hp hc => ?_
  obtain ⟨l, hl, rfl⟩ := List.mem_map.mp hp
  exact hn l hl 10 hc rfl
/-! ### options with a word behind them -/
theorem idx_first {g : List Str} {o : Str} (h : o ∈ g) : g[g.idxOf o]? = some o ∧ ∀ m, m < g.idxOf o → g[m]? ≠ some o := by
  have hl := List.idxOf_lt_length_iff.mpr h
  refine ⟨by rw [List.getElem?_eq_getElem hl, List.getElem_idxOf], fun m hm z => ?_⟩
  have hm2 := (List.getElem?_eq_some_iff.mp z)
  obtain ⟨q, e⟩ := hm2
  have := List.not_of_lt_findIdx hm
  rw [e, beq_self_eq_true] at this
  cases this
theorem opt_next {ws os : List Str} (h : CV ws os) {o : Str} (ho : o = "nested" ∨ o = "escape") (hm : o ∈ ws.drop 4) : ∃ w, (ws.drop 4)[(ws.drop 4).idxOf o + 1]? = some w ∧ (o = "nested" → w ∈ (["2", "3", "4"] : List Str)) ∧ (o = "escape" → w.length = 1 ∧ isMk w = true) := by
  obtain ⟨h1, h2, h3, h4⟩ := h
  obtain ⟨e1, _⟩ := idx_first hm
  have hl := List.idxOf_lt_length_iff.mpr hm
  generalize hj : (ws.drop 4).idxOf o = j at e1 hl
  have g4 : 4 < ws.length := by rw [List.length_drop] at hl; omega
  have hlt : j + 1 < (ws.drop 4).length := by
    rcases Nat.lt_or_ge (j + 1) (ws.drop 4).length with z | z
    · exact z
    · have e : j = (ws.drop 4).length - 1 := by omega
      have : (ws.drop 4).getLast? = some o := by rw [List.getLast?_eq_getElem?, ← e]; exact e1
      rw [last_drop g4] at this
      rcases ho with rfl | rfl
      · exact absurd this h3
      · exact absurd this h4
  refine ⟨(ws.drop 4)[j + 1], List.getElem?_eq_getElem hlt, ?_⟩
  have hi : 4 + (j + 1) < ws.length := by rw [List.length_drop] at hlt; omega
  have c := vd_at h1 hi
  have ew : (ws.drop 4)[j + 1] = ws[4 + (j + 1)] := List.getElem_drop
  rw [← ew] at c
  unfold canB at c
  have el : (ws.take (4 + (j + 1))).length = 4 + (j + 1) := by rw [List.length_take]; omega
  rw [el, if_neg (by omega), if_neg (by omega), if_neg (by omega), if_neg (by omega)] at c
  have ed : (ws.take (4 + (j + 1))).drop 4 = (ws.drop 4).take (j + 1) := by rw [List.drop_take]; congr 1; omega
  have eg : ((ws.drop 4).take (j + 1)).getLast? = some o := by
    rw [List.getLast?_eq_getElem?, List.length_take, Nat.min_eq_left (by omega), Nat.add_sub_cancel, List.getElem?_take, if_pos (by omega)]
    exact e1
  unfold optB at c
  rw [ed, eg] at c
  rcases ho with rfl | rfl
  · rw [if_pos rfl, decide_eq_true_eq] at c
    exact ⟨fun _ => c, fun z => absurd z (by decide +kernel)⟩
  · rw [if_neg (by decide +kernel), if_pos rfl, Bool.and_eq_true, decide_eq_true_eq] at c
    exact ⟨fun z => absurd z (by decide +kernel), fun _ => c⟩
theorem mk_len {w : Str} (h : isMk w = true) : 1 ≤ w.length ∧ w.length ≤ 4 := by
  unfold isMk at h
  rw [Bool.and_eq_true, Bool.and_eq_true, decide_eq_true_eq, decide_eq_true_eq] at h
  exact ⟨h.1, h.2.1⟩
theorem vd_0 {ws os : List Str} (h : Vd ws os) (hl : 0 < ws.length) : ws[0] = "remark" ∨ ws[0] = "quote" := by
  have c := vd_at h hl
  unfold canB at c
  rw [List.take_zero, if_pos (show ([] : List Str).length = 0 from rfl), decide_eq_true_eq] at c
  simpa using c
theorem vd_1 {ws os : List Str} (h : Vd ws os) (hl : 1 < ws.length) : isMk ws[1] = true := by
  have c := vd_at h hl
  unfold canB at c
  have e : (ws.take 1).length = 1 := by rw [List.length_take]; omega
  rw [e, if_neg (by decide), if_pos rfl, Bool.and_eq_true] at c
  exact c.1
/-! ### frames -/
theorem ExX.of {a : Addr} {H H' : Hp} (s : Same H H') : ExX a H H' := fun b o _ e _ => s b o e
theorem ExX.trans {a : Addr} {H H1 H2 : Hp} (s : ExX a H H1) (t : ExX a H1 H2) : ExX a H H2 := fun b o n e m => t b o n (s b o n e m) m
theorem ExX.ext {a : Addr} {H H' : Hp} (s : LamX.ExtN H H') : ExX a H H' := fun b o _ e m => s b o e m
theorem extN_same {H H' : Hp} (s : Same H H') : LamX.ExtN H H' := fun b o e _ => s b o e
theorem tabs_same {T : List (Addr × Str)} {H H' : Hp} (t : LamX.Tabs T H) (s : Same H H') : LamX.Tabs T H' := t.ext s
theorem tabs_ks {T : List (Addr × Str)} {H H' : Hp} (t : LamX.Tabs T H) (k : Ks H H') : LamX.Tabs T H' := fun p hp => by
  obtain ⟨ps, h1, h2, h3⟩ := t p hp
  refine ⟨ps, k.1 _ _ h1 (fun _ z => nomatch z), h2, fun pos cv hc => ?_⟩
  obtain ⟨c, e1, e2⟩ := h3 pos cv hc
  exact ⟨c, e1, k.1 _ _ e2 (fun _ z => by unfold LamX.CodeO at z; cases z)⟩
theorem tabs_upd {T : List (Addr × Str)} {H : Hp} {L : Addr} {u o : HO} (t : LamX.Tabs T H) (h : H L = some u) (n1 : ∀ ps, u ≠ .tbl ps) (n2 : ∀ c q, u ≠ LamX.CodeO c q) : LamX.Tabs T (upd H L o) := fun p hp => by
  obtain ⟨ps, h1, h2, h3⟩ := t p hp
  refine ⟨ps, by rw [upd_ne fun z => by rw [z, h] at h1; exact n1 _ (Option.some.inj h1)]; exact h1, h2, fun pos cv hc => ?_⟩
  obtain ⟨c, e1, e2⟩ := h3 pos cv hc
  exact ⟨c, e1, by rw [upd_ne fun z => by rw [z, h] at e2; exact n2 _ _ (Option.some.inj e2)]; exact e2⟩
theorem RuG.ext {CR : Addr} {H H' : Hp} {v : V} (h : RuG CR H v) (s : LamX.ExtN H H') : RuG CR H' v := let ⟨a, dx, k, op, cl, nd, es, db, ln, e, h1, h2⟩ := h; ⟨a, dx, k, op, cl, nd, es, db, ln, e, s _ _ h1 (fun _ z => nomatch z), h2⟩
theorem MkG.ext {K : PySem.W.Frag} {H H' : Hp} {v : V} (h : MkG K H v) (s : LamX.ExtN H H') : MkG K H' v := let ⟨t, x, u, e, h1, h2⟩ := h; ⟨t, x, u, e, s _ _ h1 (fun _ z => nomatch z), h2⟩
theorem strOk_S {l : List Nat} (h : ∀ c ∈ l, c < 1000) : PyData.strOk (S l) = true := by
  unfold PyData.strOk
  show l.toArray.all _ = true
  rw [List.all_toArray]
  exact List.all_eq_true.mpr fun c hc => decide_eq_true (by have := h c hc; omega)
theorem one_list (l : List Nat) : (l.map one) = l.map fun c => V.str (S [c]) := rfl
section
variable {K : PySem.W.Frag} {a : Addr} {xs : List V}
theorem walk_enumK {k0 : Int} : Walk (IteK K a k0) xs.length (fun H => SqL K H a xs) (YPair (fun i => some (.int (k0 + (i : Nat)))) (fun i => xs[i]?)) := by
  refine ⟨fun i _ hi q => ⟨xs, xs[i], q, by simp [hi]⟩, fun _ q => ⟨xs, q, rfl⟩, fun i H v H' _ q y => ?_⟩
  obtain ⟨T, x, h1, h2, h3, h4⟩ := y
  exact ⟨T, .int (k0 + (i : Nat)), x, h1, h2, h3, rfl, h4 xs q⟩
theorem walk_enumT : Walk (IteT K a) xs.length (fun H => SqT K H a xs) (YPair (fun i => some (.int (i : Nat))) (fun i => xs[i]?)) := by
  refine ⟨fun i _ hi q => ⟨xs, xs[i], q, by simp [hi]⟩, fun _ q => ⟨xs, q, rfl⟩, fun i H v H' _ q y => ?_⟩
  obtain ⟨T, x, h1, h2, h3, h4⟩ := y
  exact ⟨T, .int (i : Nat), x, h1, h2, h3, rfl, h4 xs q⟩
end
theorem isMk_lt {w : Str} : isMk w = (decide (1 ≤ w.length) && decide (w.length ≤ 4) && (TL.tl w).all fun c => decide (c ∈ mkL)) := by unfold isMk; rw [Bool.and_assoc]
theorem same_refl (H : Hp) : Same H H := fun _ _ z => z
theorem same1 {H : Hp} {p : Addr} (h : H p = none) (o : HO) : Same H (upd H p o) := same_new (same_refl H) h o
theorem slT_from {K : PySem.W.Frag} {H : Hp} {a : Addr} {xs : List V} {Q : VK} (j : Nat) (h : SqT K H a xs) (q : ∀ b H', Same H H' → SqT K H' b (xs.drop j) → Q (.ref b) H') : rSlA K (.ref a) (some (j : Int)) none H Q := by
  refine ⟨a, xs, rfl, h, fun w => ?_, fun w p hp => ?_⟩
  · have e : xs.drop j = xs := by
      have w1 := w.1
      rw [HT.sIx_nat] at w1
      by_cases hj : j = 0
      · rw [hj, List.drop_zero]
      · have : xs.length = 0 := by omega
        rw [List.length_eq_zero_iff.mp this, List.drop_nil]
    exact q a H (same_refl H) (by rw [e]; exact h)
  · rw [cut_from]
    exact q p _ (same1 hp _) (SqT.of upd_same)
theorem slT_to {K : PySem.W.Frag} {H : Hp} {a : Addr} {xs : List V} {Q : VK} (j : Nat) (h : SqT K H a xs) (q : ∀ b H', Same H H' → SqT K H' b (xs.take j) → Q (.ref b) H') : rSlA K (.ref a) none (some (j : Int)) H Q := by
  refine ⟨a, xs, rfl, h, fun w => ?_, fun w p hp => ?_⟩
  · have e : xs.take j = xs := by
      have w1 := w.2
      rw [HT.sIx_nat] at w1
      exact List.take_of_length_le (by omega)
    exact q a H (same_refl H) (by rw [e]; exact h)
  · rw [cut_to]
    exact q p _ (same1 hp _) (SqT.of upd_same)
theorem strs_drop (ws : List Str) (n : Nat) : (ws.map V.str).drop n = (ws.drop n).map V.str := (List.map_drop ..).symm
theorem strs_take (ws : List Str) (n : Nat) : (ws.map V.str).take n = (ws.take n).map V.str := (List.map_take ..).symm
theorem sqT_same {K : PySem.W.Frag} {H H' : Hp} {a : Addr} {xs : List V} (s : Same H H') (h : SqT K H a xs) : SqT K H' a xs := (Ks.of s).seqT h
theorem sqL_same {K : PySem.W.Frag} {H H' : Hp} {a : Addr} {xs : List V} (s : Same H H') (h : SqL K H a xs) : SqL K H' a xs := (Ks.of s).seq h
theorem at_lastS {ws : List Str} (h : ws ≠ []) : ∃ u, ws.getLast? = some u ∧ atI (ws.map V.str) (-1) = some (.str u) := by
  refine ⟨ws.getLast h, List.getLast?_eq_some_getLast h, ?_⟩
  have e : ws.map V.str = ws.dropLast.map V.str ++ [V.str (ws.getLast h)] := by
    conv => lhs; rw [← List.dropLast_concat_getLast h]
    rw [List.map_append]; rfl
  rw [e]
  exact atI_last _ _
theorem truL {K : PySem.W.Frag} {H : Hp} {a : Addr} {xs : List V} (h : SqL K H a xs) : TruV K (.ref a) H (!xs.isEmpty) := .inl ⟨xs, h, rfl⟩
theorem dN (a b : Nat) : decide (V.int (a : Int) = V.int (b : Int)) = decide (a = b) := decide_eq_decide.mpr ⟨fun z => by have := V.int.inj z; omega, fun z => by rw [z]⟩
theorem wcGo_cons (os ah : List Str) (w : Str) (r : List Str) (c : Nat) : wcGo os ah (w :: r) c = if canB ah w os = true then wcGo os (ah ++ [w]) r (c + (w.length + 1)) else some c := rfl
theorem fwGo_cons (k : Nat) (l : Str) (r os : List Str) : fwGo k (l :: r) os = if 6 ≤ k then some (k + 1, 1) else match wcol l os with
    | some c => some (k + 1, c)
    | none => fwGo (k + 1) r (os ++ [opn l]) := rfl
theorem sqL_ins {K : PySem.W.Frag} {H : Hp} {a b C dx : Addr} {fs : List (Str × V)} {xs : List V} {o : HO} (h : SqL K H b xs) (e : H a = some (.ins C dx fs)) : SqL K (upd H a o) b xs := by
  rcases h with (h | ⟨o', h⟩) | h
  · exact .inl (.inl (by rw [upd_ne (ne_of h e fun z => nomatch z)]; exact h))
  · exact .inl (.inr ⟨o', by rw [upd_ne (ne_of h e fun z => nomatch z)]; exact h⟩)
  · exact .inr h
theorem ins_keep {H : Hp} {a : Addr} {o : HO} : ∀ b u, b ≠ a → H b = some u → (upd H a o) b = some u := fun b u n e => by rw [upd_ne n]; exact e
theorem RuG.updL {CR : Addr} {H : Hp} {v : V} {R : Addr} {xs : List V} {o : HO} (h : RuG CR H v) (e : H R = some (.lst xs)) : RuG CR (upd H R o) v := let ⟨a, dx, k, op, cl, nd, es, db, ln, ev, h1, h2⟩ := h; ⟨a, dx, k, op, cl, nd, es, db, ln, ev, by rw [upd_ne (ne_of h1 e fun z => nomatch z)]; exact h1, h2⟩
theorem RuG.same {CR : Addr} {H H' : Hp} {v : V} (h : RuG CR H v) (s : Same H H') : RuG CR H' v := h.ext (extN_same s)
theorem str_ne0 (t : Str) : ((t.length : Int) != 0) = decide (t ≠ "") := by
  by_cases h : t = ""
  · subst h; decide +kernel
  · rw [decide_eq_true h]
    have : t.length ≠ 0 := fun z => h (TL.ext_tl (List.length_eq_zero_iff.mp (by rw [← TL.len_tl]; exact z)))
    rw [bne_iff_ne]
    omega
theorem call_lenK {X : Cx} {K : PySem.W.Frag} (hK : X.K = K) : CallR X (.builtin "len") (fun xs H Q => ∃ x n, xs = [x] ∧ LenV K x H n ∧ Q (.int ((n : Nat) : Int)) H) := by subst hK; exact call_len
def PInv (K : PySem.W.Frag) (H : Hp) (L : Addr) (j : Nat) (ms : List V) (H' : Hp) : Prop := H' L = some (.lst ms) ∧ Same H H' ∧ ms.length ≤ j ∧ ∀ m ∈ ms, MkG K H' m
theorem pinv_up {K : PySem.W.Frag} {H : Hp} {L : Addr} {j : Nat} {ms : List V} {H' : Hp} (h : PInv K H L j ms H') : PInv K H L (j + 1) ms H' := ⟨h.1, h.2.1, Nat.le_succ_of_le h.2.2.1, h.2.2.2⟩
theorem pinv_push {K : PySem.W.Frag} {H H1 H2 : Hp} {L t : Addr} {j : Nat} {ms : List V} {x : Str} {u : V} (hL : H L = none) (h : PInv K H L j ms H1) (s : Same H1 H2) (ht : H2 t = some (.tup [.str x, u])) (hx : x.length ≤ 100) : PInv K H L (j + 1) (ms ++ [.ref t]) (upd H2 L (.lst (ms ++ [.ref t]))) := by
  obtain ⟨h1, h2, h3, h4⟩ := h
  have hL2 := s _ _ h1
  refine ⟨upd_same, fun b o z => by rw [upd_ne (ne_of_none z hL)]; exact s _ _ (h2 b o z), by rw [List.length_append, List.length_singleton]; omega, fun m hm => ?_⟩
  have keep : ∀ {b : Addr} {xs : List V}, H2 b = some (.tup xs) → (upd H2 L (.lst (ms ++ [.ref t]))) b = some (.tup xs) := fun z => by rw [upd_ne (ne_of z hL2 fun y => nomatch y)]; exact z
  rcases List.mem_append.mp hm with hm | hm
  · obtain ⟨t', x', u', e, e1, e2⟩ := h4 m hm
    exact ⟨t', x', u', e, keep (s _ _ e1), e2⟩
  · exact ⟨t, x, u, List.mem_singleton.mp hm, keep ht, hx⟩
theorem sqT_upd {K : PySem.W.Frag} {H : Hp} {p b : Addr} {u o : HO} {xs : List V} (h : SqT K H b xs) (e : H p = some u) (n1 : ∀ xs, u ≠ .tup xs) (n2 : ∀ o' u', u ≠ .frz o' u') : SqT K (upd H p o) b xs := by
  rcases h with (h | ⟨o', h⟩) | h
  · exact .inl (.inl (by rw [upd_ne (ne_of h e fun z => n1 _ z.symm)]; exact h))
  · exact .inl (.inr ⟨o', by rw [upd_ne (ne_of h e fun z => n2 _ _ z.symm)]; exact h⟩)
  · exact .inr h
theorem sqT_ext {K : PySem.W.Frag} {H H' : Hp} {b : Addr} {xs : List V} (h : SqT K H b xs) (e : LamX.ExtN H H') : SqT K H' b xs := by
  rcases h with (h | ⟨o', h⟩) | h
  · exact .inl (.inl (e _ _ h fun _ z => nomatch z))
  · exact .inl (.inr ⟨o', e _ _ h fun _ z => nomatch z⟩)
  · exact .inr h
theorem dx_ne {P : Program} {w : World} {a : Addr} {xs : List Ent} : (∀ ps, DX P w a xs ≠ .tbl ps) ∧ (∀ ys, DX P w a xs ≠ .tup ys) ∧ (∀ o u, DX P w a xs ≠ .frz o u) := ⟨fun _ z => (nomatch z), fun _ z => (nomatch z), fun _ _ z => nomatch z⟩
theorem EntsAt.ext {K : PySem.W.Frag} {H H' : Hp} {xs : List Ent} (h : EntsAt K H xs) (e : LamX.ExtN H H') : EntsAt K H' xs := fun q hq => sqT_ext (h q hq) e
theorem EntsAt.updX {P : Program} {w : World} {K : PySem.W.Frag} {H : Hp} {p : Addr} {xs ys : List Ent} {o : HO} (h : EntsAt K H xs) (e : H p = some (DX P w p ys)) : EntsAt K (upd H p o) xs := fun q hq => sqT_upd (h q hq) e dx_ne.2.1 dx_ne.2.2
theorem tabs_updN {T : List (Addr × Str)} {H : Hp} {L : Addr} {u o : HO} (t : LamX.Tabs T H) (h : H L = some u) (n1 : ∀ ps, u ≠ .tbl ps) (n2 : NoCode H L) : LamX.Tabs T (upd H L o) := fun p hp => by
  obtain ⟨ps, h1, h2, h3⟩ := t p hp
  refine ⟨ps, by rw [upd_ne fun z => by rw [z, h] at h1; exact n1 _ (Option.some.inj h1)]; exact h1, h2, fun pos cv hc => ?_⟩
  obtain ⟨c, e1, e2⟩ := h3 pos cv hc
  exact ⟨c, e1, by rw [upd_ne (n2 c _ e2)]; exact e2⟩
theorem sqL_ext {K : PySem.W.Frag} {H H' : Hp} {b : Addr} {xs : List V} (h : SqL K H b xs) (e : LamX.ExtN H H') : SqL K H' b xs := by
  rcases h with (h | ⟨o', h⟩) | h
  · exact .inl (.inl (e _ _ h fun _ z => nomatch z))
  · exact .inl (.inr ⟨o', e _ _ h fun _ z => nomatch z⟩)
  · exact .inr h
theorem spl_ch (S0 : List Nat) : ∀ (l acc : List Nat) (k : Nat) (p : List Nat), p ∈ TL.spl S0 k acc l → ∀ c ∈ p, c ∈ acc ∨ c ∈ l
  | [], acc, k, p, h, c, hc => by
    rw [TL.spl_nil] at h
    rw [List.mem_singleton.mp h] at hc
    exact .inl hc
  | d :: r, acc, 0, p, h, c, hc => by
    by_cases e : TL.pre S0 (d :: r) = true
    · rw [TL.spl_hit e] at h
      rcases List.mem_cons.mp h with rfl | h
      · exact .inl hc
      · rcases spl_ch S0 r [] (S0.length - 1) p h c hc with z | z
        · cases z
        · exact .inr (.tail _ z)
    · rw [TL.spl_miss (Bool.eq_false_iff.mpr e)] at h
      rcases spl_ch S0 r (acc ++ [d]) 0 p h c hc with z | z
      · rcases List.mem_append.mp z with z | z
        · exact .inl z
        · rw [List.mem_singleton.mp z]; exact .inr (.head _)
      · exact .inr (.tail _ z)
  | d :: r, acc, k + 1, p, h, c, hc => by
    rcases spl_ch S0 r acc k p h c hc with z | z
    · exact .inl z
    · exact .inr (.tail _ z)
theorem spS_ch {l : Str} (h : ChOk l) : ∀ w ∈ spS l, ChOk w := fun w hw c hc => by
  have e := TL.split_spl l (" " : Str) (by decide +kernel) (TL.kind_ok (by decide +kernel))
  have hm : TL.tl w ∈ TL.spl (TL.tl (" " : Str)) 0 [] (TL.tl l) := by rw [← e]; exact List.mem_map_of_mem hw
  rcases spl_ch _ _ _ _ _ hm c hc with z | z
  · cases z
  · exact h c z
theorem GoodS.ch {n : Nat} {z : Str} (h : GoodS n z) : ChOk z := fun c hc => (h.2 c hc).2
theorem ch_ok {w : Str} (h : ChOk w) : PyData.strOk w = true := by rw [← TL.mk_tl w]; exact strOk_S h
theorem strs_dp {K : PySem.W.Frag} {H : Hp} : ∀ ls : List Str, DpAll K H (ls.map V.str) (ls.map PyData.str)
  | [] => .nil
  | x :: ls => .cons (.str _) (strs_dp ls)
theorem strs_lay : ∀ {ls : List Str}, (∀ l ∈ ls, ChOk l) → PyData.canLayAll0 (ls.map PyData.str) = true ∧ PyData.depthAll (ls.map PyData.str) ≤ 1
  | [], _ => ⟨rfl, Nat.zero_le _⟩
  | l :: ls, h => by
    obtain ⟨h1, h2⟩ := strs_lay (ls := ls) fun x hx => h x (List.mem_cons_of_mem _ hx)
    refine ⟨?_, ?_⟩
    · show (PyData.strOk l && PyData.canLayAll0 (ls.map PyData.str)) = true
      rw [h1, ch_ok (h l (List.mem_cons_self ..))]; rfl
    · show max 0 (PyData.depthAll (ls.map PyData.str)) ≤ 1
      omega
theorem strs_list {ls : List Str} (h : ∀ l ∈ ls, ChOk l) : SeqAt.shaped (.list (ls.map PyData.str)) = true ∧ PyData.eqv (.list (ls.map PyData.str)) (.list (ls.map PyData.str)) = true := by
  obtain ⟨h1, h2⟩ := strs_lay h
  refine ⟨?_, SeqAt.eqv_refl _ h1⟩
  show (PyData.canLayAll0 (ls.map PyData.str) && decide (PyData.depthAll (ls.map PyData.str) + 1 ≤ 64)) = true
  rw [h1, decide_eq_true (by omega)]; rfl
theorem eqv_nil (ls : List Str) : PyData.eqv (.list (ls.map PyData.str)) (.list []) = decide (ls = []) := by
  cases ls with
  | nil => rfl
  | cons x r => rw [decide_eq_false (fun z => nomatch z)]; rfl
theorem ones_flat (l : List Nat) : (l.map one).all flatV = true := List.all_eq_true.mpr fun x hx => by
  obtain ⟨w, _, rfl⟩ := List.mem_map.mp hx
  rfl
theorem one_strs (l : List Nat) : l.map one = (l.map fun c => S [c]).map V.str := by rw [List.map_map]; rfl
theorem inV_ones (c : Nat) (l : List Nat) : inV (.str ⟨#[c]⟩) (l.map one) = decide (c ∈ l) := by
  rw [one_strs, inV_strs]
  refine decide_eq_decide.mpr ?_
  rw [List.mem_map]
  refine ⟨fun ⟨d, hd, e⟩ => ?_, fun h => ⟨c, h, rfl⟩⟩
  have : [d] = [c] := S_inj e
  cases this
  exact hd
theorem op_notIn_seqK {X : Cx} {K : PySem.W.Frag} (hK : X.K = K) : OpR X (compareOp .NotIn) (rIn K true) := by subst hK; exact op_notIn_seq
theorem lc_penK {p c : Addr} {m0 n s : Nat} {te : TE} {k : Nat} {σ : L2.St} {H1 : Hp} {D : Addr} {Qd : Hp → Prop} (R : V → Hp → Prop) (stab : ∀ v H H', Tk H H' → R v H → R v H') (hk : k < σ.length) (hD : H1 D = none) (hp : PenAt H1 p c m0) (hn : n ≤ 1000000)
    (hs : ∀ (i : Nat) (H : Hp) (m : Nat) (Q : VK), i < n → Ks H1 H → PenAt H p c m → m ≤ m0 + i * s → (∀ (H' : Hp) (v : V), Ks H H' → PenAt H' p c (m + s) → R v H' → Q v H') → te ((wipe σ [k]).set k (some (.int ((0 : Int) + i)))) H Q)
    (hd : ∀ (H : Hp) (xs : List V), xs.length = n → (∀ v ∈ xs, R v H) → H D = some (.lst xs) → Ks H1 H → PenAt H p c (m0 + n * s) → Qd H) :
    ∃ W : Nat → Nat → Hp → Prop, (∃ m, W 0 m (upd H1 D (.lst []))) ∧ ∀ i m H, W i m H →
      ((Itr 0 n).stop i H ∧ Qd H) ∨ ((Itr 0 n).go i H ∧ ∃ Nx : Hp → Prop, (∀ H', Nx H' → ∃ m', m' < m ∧ W (i + 1) m' H') ∧ ∀ x H', (Itr 0 n).yld i H x H' → gName k x (wipe σ [k]) H' fun σ2 H2 => wipe σ2 [k] = wipe σ [k] ∧ tYes σ2 H2 fun b H3 =>
        if b = true then te σ2 H3 fun y H4 => ∃ acc, H4 D = some (.lst acc) ∧ acc.length < sizeLine ∧ Nx (upd H4 D (.lst (acc ++ [y]))) else Nx H3) := by
  have nD := hp.ne hD
  refine lc_range (lo := 0) (n := n) (fun i H => ∃ xs : List V, xs.length = i ∧ (∀ v ∈ xs, R v H) ∧ H D = some (.lst xs) ∧ Ks H1 H ∧ PenAt H p c (m0 + i * s)) ?_ ?_ ?_
  · exact ⟨[], rfl, (fun _ h => nomatch h), upd_same, Ks.new1 hD _, by rw [Nat.zero_mul]; exact hp.new hD⟩
  · rintro i H hi ⟨xs, e1, e2, e3, e4, e5⟩
    refine ⟨?_, ?_⟩
    · show ((σ.set k none).set k _).set k none = (σ.set k none)
      rw [List.set_set, List.set_set]
    · dsimp only [tYes]
      rw [if_pos rfl]
      refine hs i H _ _ hi e4 e5 (Nat.le_refl _) (fun H' v k1 k2 k3 => ?_)
      refine ⟨xs, k1.lst e3, szL (by omega), xs ++ [v], by rw [List.length_append, e1]; rfl, fun u hu => ?_, upd_same, (e4.trans k1).upd hD _, ?_⟩
      · have tk : Tk H' (upd H' D (.lst (xs ++ [v]))) := (Tk.refl H').lst (k1.lst e3)
        rcases List.mem_append.mp hu with hu | hu
        · exact stab _ _ _ (k1.tk.trans tk) (e2 u hu)
        · rw [List.mem_singleton.mp hu]
          exact stab _ _ _ tk k3
      · rw [Nat.succ_mul, ← Nat.add_assoc]
        exact k2.upd nD.1 nD.2
  · rintro H ⟨xs, e1, e2, e3, e4, e5⟩
    exact hd H xs e1 e2 e3 e4 e5
theorem ifl {b : Bool} {te : TE} {σ : L2.St} {H2 : Hp} {A : List V} {R : VK} (hA : ∀ R : VK, (∀ p, H2 p = none → R (.ref p) (upd H2 p (.lst A))) → te σ H2 R) (k : ∀ Y H3 ys, Same H2 H3 → H3 Y = some (.lst ys) → (ys = A ∨ ys = []) → R (.ref Y) H3) : if b = true then te σ H2 R else tLst tNil σ H2 R := by
  refine ite2 (fun _ => hA R fun p hp => k p _ A (same1 hp _) upd_same (.inl rfl)) fun _ => ?_
  exact ⟨szB (by decide), fun p hp => k p _ [] (same1 hp _) upd_same (.inr rfl)⟩
theorem ifv {b : Bool} {ta tb : TE} {σ : L2.St} {H2 : Hp} {R : VK} (x y : V) (hx : ∀ R : VK, R x H2 → ta σ H2 R) (hy : ∀ R : VK, R y H2 → tb σ H2 R) (k : ∀ v, (b = true ∧ v = x) ∨ (b = false ∧ v = y) → R v H2) : if b = true then ta σ H2 R else tb σ H2 R := by
  cases b with
  | true => rw [if_pos rfl]; exact hx R (k x (.inl ⟨rfl, rfl⟩))
  | false => rw [if_neg Bool.false_ne_true]; exact hy R (k y (.inr ⟨rfl, rfl⟩))
/-- a list of words of a line -/
def LwAt (H0 : Hp) (B : Addr) (n : Nat) (H' : Hp) : Prop := ∃ ws : List Str, Same H0 H' ∧ H' B = some (.lst (ws.map V.str)) ∧ 1 ≤ ws.length ∧ ws.length ≤ n ∧ ∀ w ∈ ws, GoodS 8 w
theorem lw_cat {H : Hp} {B Y : Addr} {n m : Nat} {H1 H2 : Hp} {ys : List Str} {R : VK} (h : LwAt H B n H1) (s : Same H1 H2) (hY : H2 Y = some (.lst (ys.map V.str))) (hk : n + ys.length ≤ m) (hm : m ≤ 100) (g : ∀ w ∈ ys, GoodS 8 w)
    (q : ∀ D H3, Same H2 H3 → LwAt H D m H3 → R (.ref D) H3) : rCat (.ref B) (.ref Y) H2 R := by
  obtain ⟨ws, s0, h1, h2, h3, h4⟩ := h
  refine ⟨B, Y, _, _, rfl, rfl, s _ _ h1, hY, szB (by rw [List.length_map, List.length_map]; omega), fun D hD => ?_⟩
  have s2 : Same H H2 := fun b o z => s _ _ (s0 b o z)
  refine q D _ (same1 hD _) ⟨ws ++ ys, same_new s2 hD _, by rw [List.map_append]; exact upd_same, ?_, ?_, fun w hw => ?_⟩
  · rw [List.length_append]; omega
  · rw [List.length_append]; omega
  · rcases List.mem_append.mp hw with hw | hw
    · exact h4 w hw
    · exact g w hw
theorem goods_of {n : Nat} {l : List Str} (h : (l.all fun z => decide (z.length ≤ n) && (TL.tl z).all fun c => decide (c ≠ 10 ∧ c < 1000)) = true) : ∀ z ∈ l, GoodS n z := by
  intro z hz
  have h := List.all_eq_true.mp h z hz
  rw [Bool.and_eq_true] at h
  exact ⟨of_decide_eq_true h.1, fun c hc => of_decide_eq_true (List.all_eq_true.mp h.2 c hc)⟩
theorem tl_joinS (y : Str) (ls : List Str) : TL.tl (Txt.join y ls) = TL.joinL (TL.tl y) (ls.map TL.tl) := by
  rw [TL.join_eq]; exact TL.tl_join _ _
theorem joinL_mem {s : List Nat} {c : Nat} : ∀ {ls : List (List Nat)}, c ∈ TL.joinL s ls → c ∈ s ∨ ∃ l ∈ ls, c ∈ l
  | [], h => by cases h
  | [l], h => .inr ⟨l, .head _, h⟩
  | l :: m :: r, h => by
    have h' : c ∈ l ++ (s ++ TL.joinL s (m :: r)) := h
    rcases List.mem_append.mp h' with z | z
    · exact .inr ⟨l, .head _, z⟩
    · rcases List.mem_append.mp z with z | z
      · exact .inl z
      · rcases joinL_mem z with y | ⟨u, hu, y⟩
        · exact .inl y
        · exact .inr ⟨u, .tail _ hu, y⟩
theorem joinL_len {s : List Nat} {b : Nat} : ∀ {ls : List (List Nat)}, (∀ l ∈ ls, l.length ≤ b) → (TL.joinL s ls).length ≤ ls.length * (b + s.length)
  | [], _ => Nat.zero_le _
  | [l], h => by
    have := h l (.head _)
    show l.length ≤ 1 * (b + s.length)
    omega
  | l :: m :: r, h => by
    have h1 := h l (.head _)
    have h2 := joinL_len (s := s) (b := b) (ls := m :: r) fun x hx => h x (.tail _ hx)
    show (l ++ (s ++ TL.joinL s (m :: r))).length ≤ (r.length + 1 + 1) * (b + s.length)
    rw [List.length_append, List.length_append, Nat.succ_mul]
    rw [List.length_cons] at h2
    omega
theorem lens_sum {b : Nat} : ∀ {ls : List Str}, (∀ l ∈ ls, l.length ≤ b) → (ls.map (·.length)).sum ≤ ls.length * b
  | [], _ => Nat.zero_le _
  | l :: r, h => by
    have h1 := h l (.head _)
    have h2 := lens_sum (b := b) (ls := r) fun x hx => h x (.tail _ hx)
    rw [List.map_cons, List.sum_cons, List.length_cons, Nat.succ_mul]
    omega
theorem lc_listK {K : PySem.W.Frag} {p c a : Addr} {m0 s : Nat} {xs : List V} {te : TE} {k : Nat} {σ : L2.St} {H1 : Hp} {D : Addr} {Qd : Hp → Prop} (R : Nat → V → Hp → Prop) (stab : ∀ i v H H', Tk H H' → R i v H → R i v H') (hk : k < σ.length) (hD : H1 D = none) (ha : H1 a = some (.lst xs)) (hp : PenAt H1 p c m0) (hn : xs.length ≤ 1000000)
    (hs : ∀ (i : Nat) (x : V) (H : Hp) (m : Nat) (Q : VK), xs[i]? = some x → Ks H1 H → PenAt H p c m → m ≤ m0 + i * s → (∀ (H' : Hp) (v : V), Ks H H' → PenAt H' p c (m + s) → R i v H' → Q v H') → te ((wipe σ [k]).set k (some x)) H Q)
    (hd : ∀ (H : Hp) (ys : List V), ys.length = xs.length → (∀ i v, ys[i]? = some v → R i v H) → H D = some (.lst ys) → Ks H1 H → PenAt H p c (m0 + xs.length * s) → Qd H) :
    ∃ W : Nat → Nat → Hp → Prop, (∃ m, W 0 m (upd H1 D (.lst []))) ∧ ∀ i m H, W i m H →
      ((Itl K a).stop i H ∧ Qd H) ∨ ((Itl K a).go i H ∧ ∃ Nx : Hp → Prop, (∀ H', Nx H' → ∃ m', m' < m ∧ W (i + 1) m' H') ∧ ∀ x H', (Itl K a).yld i H x H' → gName k x (wipe σ [k]) H' fun σ2 H2 => wipe σ2 [k] = wipe σ [k] ∧ tYes σ2 H2 fun b H3 =>
        if b = true then te σ2 H3 fun y H4 => ∃ acc, H4 D = some (.lst acc) ∧ acc.length < sizeLine ∧ Nx (upd H4 D (.lst (acc ++ [y]))) else Nx H3) := by
  have nD := hp.ne hD
  refine lc_list (K := K) (a := a) (xs := xs) (fun i H => ∃ ys : List V, ys.length = i ∧ (∀ j v, ys[j]? = some v → R j v H) ∧ H D = some (.lst ys) ∧ Ks H1 H ∧ PenAt H p c (m0 + i * s)) ?_ ?_ ?_ ?_
  · exact ⟨[], rfl, (fun _ _ h => nomatch h), upd_same, Ks.new1 hD _, by rw [Nat.zero_mul]; exact hp.new hD⟩
  · rintro i H _ ⟨ys, e1, e2, e3, e4, e5⟩
    exact SqL.of (e4.lst ha)
  · rintro i x H hx ⟨ys, e1, e2, e3, e4, e5⟩
    have hi : i < xs.length := (List.getElem?_eq_some_iff.mp hx).1
    refine ⟨?_, ?_⟩
    · show ((σ.set k none).set k _).set k none = (σ.set k none)
      rw [List.set_set, List.set_set]
    · dsimp only [tYes]
      rw [if_pos rfl]
      refine hs i x H _ _ hx e4 e5 (Nat.le_refl _) (fun H' v k1 k2 k3 => ?_)
      refine ⟨ys, k1.lst e3, szL (by omega), ys ++ [v], by rw [List.length_append, e1]; rfl, fun j u hu => ?_, upd_same, (e4.trans k1).upd hD _, ?_⟩
      · have tk : Tk H' (upd H' D (.lst (ys ++ [v]))) := (Tk.refl H').lst (k1.lst e3)
        rcases Nat.lt_or_ge j ys.length with hj | hj
        · rw [List.getElem?_append_left hj] at hu
          exact stab _ _ _ _ (k1.tk.trans tk) (e2 j u hu)
        · rw [List.getElem?_append_right hj] at hu
          have ej : j = i := by
            have := (List.getElem?_eq_some_iff.mp hu).1
            rw [List.length_singleton] at this
            omega
          subst ej
          rw [e1, Nat.sub_self] at hu
          cases hu
          exact stab _ _ _ _ tk k3
      · rw [Nat.succ_mul, ← Nat.add_assoc]
        exact k2.upd nD.1 nD.2
  · rintro H ⟨ys, e1, e2, e3, e4, e5⟩
    exact hd H ys e1 e2 e3 e4 e5
theorem good_of {l t : List Nat} {n : Nat} (h : SgOk l) (ht : ∀ x ∈ t, x ∈ l) (hn : t.length ≤ n) : GoodS n (S t) := ⟨by rw [S_len]; exact hn, fun c hc => h.2.2 c (ht c (by rwa [TL.tl_mk] at hc))⟩

end
end Vf

set_option maxRecDepth 100000
set_option maxHeartbeats 4000000
namespace Vf
open PySem PySem.Spec PyProof.Rows L2 SX
section
variable {P : Program} {w : World} {K : PySem.W.Frag} {mg : Str → Option Value} {base : Heap}
/-! ### the line of a right rule -/
structure Rr where
  k : Str
  o : Str
  c : Str
  d : Nat
  e : Str
  db : Bool
  ln : Bool
structure RrOk (r : Rr) : Prop where
  hk : r.k = "remark" ∨ r.k = "quote"
  ho : isMk r.o = true
  hc : r.c = "" ∨ isMk r.c = true
  hd : r.d = 0 ∨ ((r.d = 2 ∨ r.d = 3 ∨ r.d = 4) ∧ r.k = "remark" ∧ r.c ≠ "" ∧ r.c ≠ r.o ∧ r.db = false)
  he : r.e = "" ∨ (isMk r.e = true ∧ r.e.length = 1)
  hb : r.db = true → r.c ≠ ""
  hl : r.ln = true → r.c ≠ ""
def sd (d : Nat) : Str := toString ((d : Nat) : Int)
def optW (r : Rr) : List Str := (if 0 < r.d then (["nested", sd r.d] : List Str) else []) ++ ((if r.e ≠ "" then (["escape", r.e] : List Str) else []) ++ ((if r.db = true then [("doubled" : Str)] else []) ++ (if r.ln = true then [("line" : Str)] else [])))
def c4 (r : Rr) : Str := if r.c = "" then "line" else r.c
def wordsOf (r : Rr) : List Str := ([r.k, r.o, "to", c4 r] : List Str) ++ optW r
theorem mk_not {w : Str} (h : isMk w = true) : w ≠ "nested" ∧ w ≠ "escape" ∧ w ≠ "line" ∧ w ≠ "doubled" ∧ w ≠ "" := by
  refine ⟨(mk_letters h).1, (mk_letters h).2.1, (mk_letters h).2.2, fun z => ?_, fun z => ?_⟩ <;> subst z <;> revert h <;> decide +kernel
theorem sd_in {d : Nat} (h : d = 2 ∨ d = 3 ∨ d = 4) : sd d ∈ (["2", "3", "4"] : List Str) := by
  rcases h with rfl | rfl | rfl <;> decide +kernel
theorem sd_not {d : Nat} (h : d = 2 ∨ d = 3 ∨ d = 4) : sd d ≠ "nested" ∧ sd d ≠ "escape" ∧ sd d ≠ "line" ∧ sd d ≠ "doubled" := by
  rcases h with rfl | rfl | rfl <;> decide +kernel
/-- an option's word behind the words ahead -/
theorem opt_step {h4 g os : List Str} {w : Str} (l4 : h4.length = 4) (h : optB (h4 ++ g) w = true) : canB (h4 ++ g) w os = true := by
  unfold canB
  rw [List.length_append, l4, if_neg (by omega), if_neg (by omega), if_neg (by omega), if_neg (by omega)]
  exact h
theorem ne_words : ("escape" : Str) ≠ "nested" ∧ ("escape" : Str) ≠ "line" ∧ ("escape" : Str) ≠ "doubled" ∧ ("nested" : Str) ≠ "line" ∧ ("nested" : Str) ≠ "doubled" ∧ ("doubled" : Str) ≠ "line" := by decide +kernel
def optG (a0 a1 a3 : Str) (g : List Str) (w : Str) : Bool :=
  if g.getLast? = some ("nested" : Str) then decide (w ∈ (["2", "3", "4"] : List Str))
  else if g.getLast? = some ("escape" : Str) then decide (w.length = 1) && isMk w
  else if ("line" : Str) ∈ g then false
  else if w = "line" then decide (a3 ≠ "line")
  else if ("doubled" : Str) ∈ g then false
  else if w = "doubled" then decide (a3 ≠ "line") && decide (("nested" : Str) ∉ g)
  else if w = "escape" then decide (("escape" : Str) ∉ g)
  else decide (w = "nested") && (decide (g = []) && (decide (a0 = "remark") && (decide (a3 ≠ "line") && decide (a3 ≠ a1))))
theorem opt_snoc {a0 a1 a2 a3 w : Str} {g os : List Str} (v : Vd ([a0, a1, a2, a3] ++ g) os) (h : optG a0 a1 a3 g w = true) : Vd ([a0, a1, a2, a3] ++ (g ++ [w])) os := by
  rw [← List.append_assoc]
  exact vd_snoc v (opt_step (h4 := [a0, a1, a2, a3]) rfl h)
theorem last_snoc2 (g : List Str) (a b : Str) : ((g ++ [a]) ++ [b]).getLast? = some b := by simp
theorem last_app {a b : List Str} (h : b ≠ []) : (a ++ b).getLast? = b.getLast? := by
  rw [List.getLast?_append]
  cases e : b.getLast? with
  | none => exact absurd (List.getLast?_eq_none_iff.mp e) h
  | some z => rfl
theorem line_vd {r : Rr} (h : RrOk r) {os : List Str} (hn : r.o ∉ os) : Vd (wordsOf r) os ∧ (wordsOf r).getLast? ≠ some ("nested" : Str) ∧ (wordsOf r).getLast? ≠ some ("escape" : Str) := by
  have b1 : Vd [r.k] os := vd_snoc (ws := []) (vd_nil os) (by
    show decide (r.k ∈ (["remark", "quote"] : List Str)) = true
    rcases h.hk with e | e <;> rw [e] <;> simp)
  have b2 : Vd [r.k, r.o] os := vd_snoc b1 (by
    show (isMk r.o && !decide (r.o ∈ os)) = true
    rw [h.ho, decide_eq_false hn]; rfl)
  have b3 : Vd [r.k, r.o, "to"] os := vd_snoc b2 (by
    show decide (("to" : Str) = "to") = true
    exact decide_eq_true rfl)
  have b4 : Vd ([r.k, r.o, "to", c4 r] ++ []) os := vd_snoc b3 (by
    show (decide (c4 r = "line") || isMk (c4 r)) = true
    unfold c4
    by_cases z : r.c = ""
    · rw [if_pos z]; simp
    · rw [if_neg z, h.hc.resolve_left z]; simp)
  obtain ⟨w1, w2, w3, w4, w5, w6⟩ := ne_words
  have n1 : r.c ≠ "" → c4 r ≠ "line" := fun z => by
    unfold c4; rw [if_neg z]; exact (mk_not (h.hc.resolve_left z)).2.2.1
  -- nested
  obtain ⟨g1, eg1, v1, l1, l1', i1, i1', i1'', z1⟩ : ∃ g : List Str, (if 0 < r.d then (["nested", sd r.d] : List Str) else []) = g ∧ Vd ([r.k, r.o, "to", c4 r] ++ g) os ∧ g.getLast? ≠ some ("nested" : Str) ∧ g.getLast? ≠ some ("escape" : Str) ∧ ("line" : Str) ∉ g ∧ ("doubled" : Str) ∉ g ∧ ("escape" : Str) ∉ g ∧ (r.d = 0 → ("nested" : Str) ∉ g) := by
    by_cases hd : 0 < r.d
    · obtain ⟨d1, d2, d3, d4, d5⟩ := h.hd.resolve_left (by omega)
      obtain ⟨s1, s2, s3, s4⟩ := sd_not d1
      have c41 : c4 r = r.c := if_neg d3
      refine ⟨_, if_pos hd, ?_, ?_, ?_, ?_, ?_, ?_, fun z => by omega⟩
      · have a1 : Vd ([r.k, r.o, "to", c4 r] ++ ([] ++ [("nested" : Str)])) os := opt_snoc b4 (by
          unfold optG
          rw [c41]
          have := c41 ▸ n1 d3
          simp [w4, w5, w1.symm, d2, this, d4])
        have a2 := opt_snoc (w := sd r.d) a1 (by
          unfold optG
          rw [if_pos (by simp)]
          exact decide_eq_true (sd_in d1))
        exact a2
      · simp; exact s1
      · simp; exact s2
      · simp; exact ⟨w4.symm, s3.symm⟩
      · simp; exact ⟨w5.symm, s4.symm⟩
      · simp; exact ⟨w1, s2.symm⟩
    · exact ⟨[], if_neg hd, b4, by simp, by simp, by simp, by simp, by simp, by simp⟩
  -- escape
  obtain ⟨g2, eg2, v2, l2, l2', i2, i2', z2⟩ : ∃ g : List Str, g1 ++ (if r.e ≠ "" then (["escape", r.e] : List Str) else []) = g ∧ Vd ([r.k, r.o, "to", c4 r] ++ g) os ∧ g.getLast? ≠ some ("nested" : Str) ∧ g.getLast? ≠ some ("escape" : Str) ∧ ("line" : Str) ∉ g ∧ ("doubled" : Str) ∉ g ∧ (r.d = 0 → ("nested" : Str) ∉ g) := by
    by_cases he : r.e = ""
    · exact ⟨g1, by rw [if_neg (by simpa using he), List.append_nil], v1, l1, l1', i1, i1', z1⟩
    · obtain ⟨e1, e2⟩ := h.he.resolve_left he
      obtain ⟨s1, s2, s3, s4, s5⟩ := mk_not e1
      have eg : g1 ++ (["escape", r.e] : List Str) = (g1 ++ [("escape" : Str)]) ++ [r.e] := by simp
      refine ⟨(g1 ++ [("escape" : Str)]) ++ [r.e], by rw [if_pos he, eg], ?_, ?_, ?_, ?_, ?_, ?_⟩
      · have a1 := opt_snoc (w := "escape") v1 (by
          unfold optG
          rw [if_neg l1, if_neg l1', if_neg i1, if_neg w2, if_neg i1', if_neg w3, if_pos rfl]
          exact decide_eq_true i1'')
        exact opt_snoc a1 (by
          unfold optG
          rw [if_neg (by simp; exact w1), if_pos (by simp), e1, decide_eq_true e2]; rfl)
      · rw [last_snoc2]; simp; exact s1
      · rw [last_snoc2]; simp; exact s2
      · simp; exact ⟨i1, w2.symm, s3.symm⟩
      · simp; exact ⟨i1', w3.symm, s4.symm⟩
      · intro z; simp; exact ⟨z1 z, w1.symm, s1.symm⟩
  -- doubled
  obtain ⟨g3, eg3, v3, l3, l3', i3⟩ : ∃ g : List Str, g2 ++ (if r.db = true then ([("doubled" : Str)] : List Str) else []) = g ∧ Vd ([r.k, r.o, "to", c4 r] ++ g) os ∧ g.getLast? ≠ some ("nested" : Str) ∧ g.getLast? ≠ some ("escape" : Str) ∧ ("line" : Str) ∉ g := by
    by_cases hb : r.db = true
    · have d0 : r.d = 0 := h.hd.elim id fun z => by rw [hb] at z; exact absurd z.2.2.2.2 (by simp)
      refine ⟨g2 ++ [("doubled" : Str)], by rw [if_pos hb], opt_snoc v2 ?_, ?_, ?_, ?_⟩
      · unfold optG
        rw [if_neg l2, if_neg l2', if_neg i2, if_neg w6, if_neg i2', if_pos rfl, decide_eq_true (n1 (h.hb hb)), decide_eq_true (z2 d0)]; rfl
      · simp; exact w5.symm
      · simp; exact w3.symm
      · simp; exact ⟨i2, w6.symm⟩
    · exact ⟨g2, by rw [if_neg hb, List.append_nil], v2, l2, l2', i2⟩
  -- line
  obtain ⟨g4, eg4, v4, l4, l4'⟩ : ∃ g : List Str, g3 ++ (if r.ln = true then ([("line" : Str)] : List Str) else []) = g ∧ Vd ([r.k, r.o, "to", c4 r] ++ g) os ∧ g.getLast? ≠ some ("nested" : Str) ∧ g.getLast? ≠ some ("escape" : Str) := by
    by_cases hb : r.ln = true
    · refine ⟨g3 ++ [("line" : Str)], by rw [if_pos hb], opt_snoc v3 ?_, ?_, ?_⟩
      · unfold optG
        rw [if_neg l3, if_neg l3', if_neg i3, if_pos rfl]
        exact decide_eq_true (n1 (h.hl hb))
      · simp; exact w4.symm
      · simp; exact w2.symm
    · exact ⟨g3, by rw [if_neg hb, List.append_nil], v3, l3, l3'⟩
  have eo : optW r = g4 := by
    unfold optW
    rw [← eg4, ← eg3, ← eg2, ← eg1]
    simp only [List.append_assoc]
  have c4n : c4 r ≠ "nested" ∧ c4 r ≠ "escape" := by
    unfold c4
    by_cases z : r.c = ""
    · rw [if_pos z]; exact ⟨w4.symm, w2.symm⟩
    · rw [if_neg z]; exact ⟨(mk_not (h.hc.resolve_left z)).1, (mk_not (h.hc.resolve_left z)).2.1⟩
  unfold wordsOf
  rw [eo]
  refine ⟨v4, ?_, ?_⟩
  · cases g4 with
    | nil => simp; exact c4n.1
    | cons x y => rw [last_app (List.cons_ne_nil _ _)]; exact l4
  · cases g4 with
    | nil => simp; exact c4n.2
    | cons x y => rw [last_app (List.cons_ne_nil _ _)]; exact l4'
/-- the words of joined words -/
theorem spS_join {ws : List Str} (h : ws ≠ []) (hn : ∀ l ∈ ws, ∀ c ∈ TL.tl l, c ≠ 32) : spS (Txt.join (" " : Str) ws) = ws := by
  refine TL.map_tl_inj ?_
  unfold spS
  rw [TL.split_spl _ _ (by decide +kernel) (TL.kind_ok (by decide +kernel)), tl_joinS, show TL.tl (" " : Str) = [32] from by decide +kernel]
  refine TL.spl_join (by intro z; exact h (List.map_eq_nil_iff.mp z)) fun p hp hc => ?_
  obtain ⟨l, hl, rfl⟩ := List.mem_map.mp hp
  exact hn l hl 32 hc rfl
theorem mk_no32 {w : Str} (h : isMk w = true) : ∀ c ∈ TL.tl w, c ≠ 32 := by
  unfold isMk at h
  rw [Bool.and_eq_true, Bool.and_eq_true] at h
  intro c hc e
  have := List.all_eq_true.mp h.2.2 c hc
  rw [decide_eq_true_eq, e] at this
  exact absurd this (by decide)
theorem consts32 : ∀ z ∈ (["remark", "quote", "to", "line", "nested", "escape", "doubled", "2", "3", "4"] : List Str), ∀ c ∈ TL.tl z, c ≠ 32 := by
  have : ((["remark", "quote", "to", "line", "nested", "escape", "doubled", "2", "3", "4"] : List Str).all fun z => (TL.tl z).all fun c => decide (c ≠ 32)) = true := by decide +kernel
  exact fun z hz c hc => of_decide_eq_true (List.all_eq_true.mp (List.all_eq_true.mp this z hz) c hc)
theorem words32 {r : Rr} (h : RrOk r) : ∀ l ∈ wordsOf r, ∀ c ∈ TL.tl l, c ≠ 32 := by
  intro l hl
  unfold wordsOf optW at hl
  have mc : r.c ≠ "" → ∀ c ∈ TL.tl r.c, c ≠ 32 := fun z => mk_no32 (h.hc.resolve_left z)
  rcases List.mem_append.mp hl with z | z
  · simp only [List.mem_cons, List.not_mem_nil, or_false] at z
    rcases z with rfl | rfl | rfl | rfl
    · rcases h.hk with e | e <;> rw [e] <;> exact consts32 _ (by simp)
    · exact mk_no32 h.ho
    · exact consts32 _ (by simp)
    · unfold c4
      by_cases e : r.c = ""
      · rw [if_pos e]; exact consts32 _ (by simp)
      · rw [if_neg e]; exact mc e
  · rcases List.mem_append.mp z with z | z
    · split at z
      · rename_i hd
        simp only [List.mem_cons, List.not_mem_nil, or_false] at z
        rcases z with rfl | rfl
        · exact consts32 _ (by simp)
        · have := sd_in (h.hd.resolve_left (by omega)).1
          exact consts32 _ (by simp only [List.mem_cons, List.not_mem_nil, or_false] at this ⊢; rcases this with e | e | e <;> simp [e])
      · cases z
    · rcases List.mem_append.mp z with z | z
      · split at z
        · rename_i he
          simp only [List.mem_cons, List.not_mem_nil, or_false] at z
          rcases z with rfl | rfl
          · exact consts32 _ (by simp)
          · exact mk_no32 (h.he.resolve_left he).1
        · cases z
      · rcases List.mem_append.mp z with z | z
        · split at z
          · rw [List.mem_singleton.mp z]; exact consts32 _ (by simp)
          · cases z
        · split at z
          · rw [List.mem_singleton.mp z]; exact consts32 _ (by simp)
          · cases z
def lineOf (r : Rr) : Str := Txt.join (" " : Str) (wordsOf r)
theorem spS_line {r : Rr} (h : RrOk r) : spS (lineOf r) = wordsOf r := spS_join (by unfold wordsOf; simp) (words32 h)
theorem opn_line {r : Rr} (h : RrOk r) : opn (lineOf r) = r.o := by
  unfold opn
  rw [spS_line h]
  rfl
theorem wcGo_none {os : List Str} : ∀ {r ah : List Str} {c : Nat}, Vd (ah ++ r) os → wcGo os ah r c = none
  | [], _, _, _ => rfl
  | w :: r, ah, c, h => by
    rw [wcGo_cons]
    have : canB ah w os = true := by
      have := h ah.length w (by rw [List.getElem?_append_right (Nat.le_refl _), Nat.sub_self]; rfl)
      rwa [List.take_left] at this
    rw [if_pos this]
    exact wcGo_none (by rw [List.append_assoc]; exact h)
theorem wcol_line {r : Rr} (h : RrOk r) {os : List Str} (hn : r.o ∉ os) : wcol (lineOf r) os = none := by
  obtain ⟨v, l1, l2⟩ := line_vd h hn
  have e0 : wcGo os [] (wordsOf r) 1 = none := wcGo_none (r := wordsOf r) (ah := []) v
  unfold wcol
  rw [spS_line h, e0]
  dsimp only
  rw [if_neg]
  rintro (z | z | z)
  · unfold wordsOf at z
    rw [List.length_append] at z
    have : ([r.k, r.o, "to", c4 r] : List Str).length = 4 := rfl
    omega
  · exact l1 z
  · exact l2 z
/-- right rules make right lines -/
theorem fw_lines : ∀ {rs : List Rr} {k : Nat} {os : List Str}, k + rs.length ≤ 6 → (∀ r ∈ rs, RrOk r) → (rs.map Rr.o).Nodup → (∀ r ∈ rs, r.o ∉ os) → fwGo k (rs.map lineOf) os = none
  | [], _, _, _, _, _, _ => rfl
  | r :: rs, k, os, hk, ok, nd, hn => by
    rw [List.length_cons] at hk
    rw [List.map_cons, List.nodup_cons] at nd
    rw [List.map_cons, fwGo_cons, if_neg (by omega), wcol_line (ok r (.head _)) (hn r (.head _)), opn_line (ok r (.head _))]
    dsimp only
    refine fw_lines (by omega) (fun q hq => ok q (.tail _ hq)) nd.2 fun q hq hm => ?_
    rcases List.mem_append.mp hm with z | z
    · exact hn q (.tail _ hq) z
    · exact nd.1 (by rw [← List.mem_singleton.mp z]; exact List.mem_map_of_mem hq)

end
end Vf

set_option maxRecDepth 100000
set_option maxHeartbeats 4000000
namespace Vf
open PySem PySem.Spec PyProof.Rows L2 SX
section
variable {P : Program} {w : World} {K : PySem.W.Frag} {mg : Str → Option Value} {base : Heap}
/-! ### what the program reads off the words of a rule -/
def cOf (ws : List Str) : Str := if ws.getD 3 "" = "line" then "" else ws.getD 3 ""
def depN (u : Str) : Nat := if u = "2" then 2 else if u = "3" then 3 else 4
def dOf (ws : List Str) : Nat := if ("nested" : Str) ∈ ws.drop 4 then depN ((ws.drop 4).getD ((ws.drop 4).idxOf ("nested" : Str) + 1) "") else 0
def eOf (ws : List Str) : Str := if ("escape" : Str) ∈ ws.drop 4 then (ws.drop 4).getD ((ws.drop 4).idxOf ("escape" : Str) + 1) "" else ""
theorem words_drop (r : Rr) : (wordsOf r).drop 4 = optW r := rfl
theorem words_3 (r : Rr) : (wordsOf r).getD 3 "" = c4 r := rfl
theorem depN_sd {d : Nat} (h : d = 2 ∨ d = 3 ∨ d = 4) : depN (sd d) = d := by
  rcases h with rfl | rfl | rfl <;> decide +kernel
theorem idx_hd (w : Str) (g : List Str) : (w :: g).idxOf w = 0 := by simp
theorem idx_tl {w x : Str} {g : List Str} (h : x ≠ w) : (x :: g).idxOf w = g.idxOf w + 1 := by
  rw [List.idxOf_cons]
  have : (x == w) = false := beq_eq_false_iff_ne.mpr h
  rw [this]; rfl
theorem of_words {r : Rr} (h : RrOk r) : cOf (wordsOf r) = r.c ∧ dOf (wordsOf r) = r.d ∧ eOf (wordsOf r) = r.e ∧ decide (("doubled" : Str) ∈ (wordsOf r).drop 4) = r.db ∧ (decide ((wordsOf r).getD 3 "" = "line") || decide (("line" : Str) ∈ (wordsOf r).drop 4)) = (decide (r.c = "") || r.ln) := by
  obtain ⟨w1, w2, w3, w4, w5, w6⟩ := ne_words
  have hcl : decide (c4 r = "line") = decide (r.c = "") := by
    unfold c4
    by_cases z : r.c = ""
    · rw [if_pos z, decide_eq_true rfl, decide_eq_true z]
    · rw [if_neg z, decide_eq_false z, decide_eq_false (mk_not (h.hc.resolve_left z)).2.2.1]
  have fe : r.e ≠ "" → r.e ≠ "nested" ∧ r.e ≠ "escape" ∧ r.e ≠ "line" ∧ r.e ≠ "doubled" := fun z => by
    obtain ⟨a, b, c, d, _⟩ := mk_not (h.he.resolve_left z).1
    exact ⟨a, b, c, d⟩
  have fd : 0 < r.d → sd r.d ≠ "nested" ∧ sd r.d ≠ "escape" ∧ sd r.d ≠ "line" ∧ sd r.d ≠ "doubled" := fun z => sd_not (h.hd.resolve_left (by omega)).1
  -- the parts of the options
  have pn : ∀ x : Str, x ∈ optW r ↔ (0 < r.d ∧ (x = "nested" ∨ x = sd r.d)) ∨ (r.e ≠ "" ∧ (x = "escape" ∨ x = r.e)) ∨ (r.db = true ∧ x = "doubled") ∨ (r.ln = true ∧ x = "line") := fun x => by
    unfold optW
    rw [List.mem_append, List.mem_append, List.mem_append]
    by_cases a1 : 0 < r.d <;> by_cases a2 : r.e ≠ "" <;> by_cases a3 : r.db = true <;> by_cases a4 : r.ln = true <;> simp [a1, a2, a3, a4]
  refine ⟨?_, ?_, ?_, ?_, ?_⟩
  · unfold cOf
    rw [words_3]
    by_cases z : r.c = ""
    · have : c4 r = "line" := if_pos z
      rw [if_pos this, z]
    · have : c4 r = r.c := if_neg z
      rw [this, if_neg (mk_not (h.hc.resolve_left z)).2.2.1]
  · unfold dOf
    rw [words_drop]
    by_cases a1 : 0 < r.d
    · rw [if_pos ((pn _).mpr (.inl ⟨a1, .inl rfl⟩))]
      have e1 : optW r = ("nested" : Str) :: sd r.d :: ((if r.e ≠ "" then (["escape", r.e] : List Str) else []) ++ ((if r.db = true then [("doubled" : Str)] else []) ++ (if r.ln = true then [("line" : Str)] else []))) := by
        unfold optW; rw [if_pos a1]; rfl
      rw [e1, idx_hd]
      exact depN_sd (h.hd.resolve_left (by omega)).1
    · rw [if_neg]
      · omega
      · intro z
        rcases (pn _).mp z with ⟨y, _⟩ | ⟨y, e | e⟩ | ⟨_, e⟩ | ⟨_, e⟩
        · exact a1 y
        · exact w1 e.symm
        · exact (fe y).1 e.symm
        · exact w5 e
        · exact w4 e
  · unfold eOf
    rw [words_drop]
    by_cases a2 : r.e = ""
    · rw [if_neg, a2]
      intro z
      rcases (pn _).mp z with ⟨y, e | e⟩ | ⟨y, _⟩ | ⟨_, e⟩ | ⟨_, e⟩
      · exact w1 e
      · exact (fd y).2.1 e.symm
      · exact y a2
      · exact w3 e
      · exact w2 e
    · rw [if_pos ((pn _).mpr (.inr (.inl ⟨a2, .inl rfl⟩)))]
      by_cases a1 : 0 < r.d
      · have e1 : optW r = ("nested" : Str) :: sd r.d :: ("escape" : Str) :: r.e :: ((if r.db = true then [("doubled" : Str)] else []) ++ (if r.ln = true then [("line" : Str)] else [])) := by
          unfold optW; rw [if_pos a1, if_pos a2]; rfl
        rw [e1, idx_tl w1.symm, idx_tl (fd a1).2.1, idx_hd]; rfl
      · have e1 : optW r = ("escape" : Str) :: r.e :: ((if r.db = true then [("doubled" : Str)] else []) ++ (if r.ln = true then [("line" : Str)] else [])) := by
          unfold optW; rw [if_neg a1, if_pos a2]; rfl
        rw [e1, idx_hd]; rfl
  · rw [words_drop]
    cases hb : r.db with
    | true => exact decide_eq_true ((pn _).mpr (.inr (.inr (.inl ⟨hb, rfl⟩))))
    | false =>
      refine decide_eq_false fun z => ?_
      rcases (pn _).mp z with ⟨y, e | e⟩ | ⟨y, e | e⟩ | ⟨y, _⟩ | ⟨_, e⟩
      · exact w5 e.symm
      · exact (fd y).2.2.2 e.symm
      · exact w3 e.symm
      · exact (fe y).2.2.2 e.symm
      · rw [hb] at y; cases y
      · exact w6 e
  · rw [words_3, words_drop, hcl]
    refine congrArg _ ?_
    cases hb : r.ln with
    | true => exact decide_eq_true ((pn _).mpr (.inr (.inr (.inr ⟨hb, rfl⟩))))
    | false =>
      refine decide_eq_false fun z => ?_
      rcases (pn _).mp z with ⟨y, e | e⟩ | ⟨y, e | e⟩ | ⟨_, e⟩ | ⟨y, _⟩
      · exact w4 e.symm
      · exact (fd y).2.2.1 e.symm
      · exact w2 e.symm
      · exact (fe y).2.2.1 e.symm
      · exact w6 e.symm
      · rw [hb] at y; cases y

end
end Vf

set_option maxRecDepth 100000
set_option maxHeartbeats 4000000
namespace Vf
open PySem PySem.Spec PyProof.Rows L2 SX
section
variable {P : Program} {w : World} {K : PySem.W.Frag} {mg : Str → Option Value} {base : Heap}
theorem eqv_self (o : Str) : eqV (.str o) (.str o) = true := by show ((o == o) = true); exact beq_self_eq_true _
theorem none_ahead {g : List Str} {o : Str} {j : Nat} (h : ∀ m, m < j → g[m]? ≠ some o) : ∀ (m : Nat) (z : V), m < j → (g.map V.str)[m]? = some z → eqV z (.str o) = false := fun m z hm hz => by
  rw [List.getElem?_map] at hz
  obtain ⟨u, hu, rfl⟩ := Option.map_eq_some_iff.mp hz
  show (u == o) = false
  exact beq_eq_false_iff_ne.mpr fun e => h m hm (by rw [hu, e])
theorem at_next {g : List Str} {j : Nat} {u : Str} (h : g[j + 1]? = some u) : atI (g.map V.str) ((j : Int) + 1) = some (.str u) := by
  have := atI_nat (xs := g.map V.str) (j := j + 1) (v := .str u) (by rw [List.getElem?_map, h]; rfl)
  have e : (((j + 1 : Nat)) : Int) = (j : Int) + 1 := by omega
  rw [e] at this
  exact this
theorem kind_at2 {w : Str} (h : w = "remark" ∨ w = "quote") : atI w.cps.toList 0 = some (if w = "remark" then 114 else 113) := by
  rcases h with rfl | rfl <;> decide +kernel
theorem depth_of2 {w : Str} (h : w ∈ (["2", "3", "4"] : List Str)) : PySem.intText? w = some ((depN w : Nat) : Int) ∧ w.length ≤ 640 := by
  simp only [List.mem_cons, List.not_mem_nil, or_false] at h
  rcases h with rfl | rfl | rfl <;> exact ⟨by decide +kernel, by decide +kernel⟩
theorem getD_of {g : List Str} {j : Nat} {u : Str} (h : g[j]? = some u) : g.getD j "" = u := by rw [List.getD_eq_getElem?_getD, h]; rfl
def k0Of (ws : List Str) : Nat := if ws.getD 0 "" = "remark" then 114 else 113
def lnOf (ws : List Str) : Bool := decide (ws.getD 3 "" = "line") || decide (("line" : Str) ∈ ws.drop 4)
def ruFw (ws : List Str) : List (Str × V) := ruF ⟨#[k0Of ws]⟩ (ws.getD 1 "") (cOf ws) (dOf ws) (eOf ws) (decide (("doubled" : Str) ∈ ws.drop 4)) (lnOf ws)
def sp2_Rule_init (K : PySem.W.Frag) (CR : Addr) : Sp := fun vs H Q _ => ∃ (a dx wa : Addr) (ws os : List Str), vs = [.ref a, .ref wa] ∧ H a = some (.ins CR dx []) ∧ SqL K H wa (ws.map V.str) ∧ CV ws os ∧ ws.length ≤ 2000 ∧
  ∀ H', (∀ b o, b ≠ a → H b = some o → H' b = some o) → H' a = some (.ins CR dx (ruFw ws)) → Q .non H'
def RuW (CR : Addr) (H : Hp) (v : V) (ws : List Str) : Prop := ∃ a dx, v = .ref a ∧ H a = some (.ins CR dx (ruFw ws))
theorem RuW.keep {CR : Addr} {H H' : Hp} {v : V} {ws : List Str} (h : RuW CR H v ws) (s : ∀ b C dx fs, H b = some (.ins C dx fs) → H' b = some (.ins C dx fs)) : RuW CR H' v ws := let ⟨a, dx, e, h1⟩ := h; ⟨a, dx, e, s _ _ _ _ h1⟩
theorem RuW.same {CR : Addr} {H H' : Hp} {v : V} {ws : List Str} (h : RuW CR H v ws) (s : Same H H') : RuW CR H' v ws := h.keep fun b _ _ _ z => s b _ z
theorem RuW.ext {CR : Addr} {H H' : Hp} {v : V} {ws : List Str} (h : RuW CR H v ws) (s : LamX.ExtN H H') : RuW CR H' v ws := h.keep fun b _ _ _ z => s b _ z (fun _ y => nomatch y)
theorem RuW.updL {CR : Addr} {H : Hp} {v : V} {R : Addr} {xs : List V} {o : HO} {ws : List Str} (h : RuW CR H v ws) (e : H R = some (.lst xs)) : RuW CR (upd H R o) v ws := h.keep fun b _ _ _ z => by rw [upd_ne (ne_of z e fun y => nomatch y)]; exact z
/-- the rules of lines -/
def RusW (CR : Addr) (H : Hp) (rs : List V) (ls : List Str) : Prop := ∀ (j : Nat) (r : V) (l : Str), rs[j]? = some r → ls[j]? = some l → RuW CR H r (spS l)
def sp2_readRules (CR CT : Addr) : Sp := fun vs H Q E => ∃ t : Str, vs = [.str t] ∧ t.length ≤ 100000 ∧ LnOk (lnsOf t) ∧
  (fw (lnsOf t) = none → ∀ (H' : Hp) (b : Addr) (rs : List V), Same H H' → H' b = some (.tup rs) → rs.length = (lnsOf t).length → rs.length ≤ 6 → RusW CR H' rs (lnsOf t) → Q (.ref b) H') ∧ ∀ p, fw (lnsOf t) = some p → ErT CT H p E
/-! ### marks, exactly -/
/-- a way of reading: number, depth, behind an escape -/
def ModeAt (K : PySem.W.Frag) (H : Hp) (u : V) (m : Int × Int × Int) : Prop := ∃ b, u = .ref b ∧ SqT K H b [.int m.1, .int m.2.1, .int m.2.2]
theorem ModeAt.same {K : PySem.W.Frag} {H H' : Hp} {u : V} {m : Int × Int × Int} (h : ModeAt K H u m) (s : Same H H') : ModeAt K H' u m := let ⟨b, e, h1⟩ := h; ⟨b, e, sqT_same s h1⟩
theorem ModeAt.ext {K : PySem.W.Frag} {H H' : Hp} {u : V} {m : Int × Int × Int} (h : ModeAt K H u m) (s : LamX.ExtN H H') : ModeAt K H' u m := let ⟨b, e, h1⟩ := h; ⟨b, e, sqT_ext h1 s⟩
def MkAt (K : PySem.W.Frag) (H : Hp) (v : V) (k : Str × Int × Int × Int) : Prop := ∃ t u, v = .ref t ∧ H t = some (.tup [.str k.1, u]) ∧ ModeAt K H u k.2
theorem MkAt.same {K : PySem.W.Frag} {H H' : Hp} {v : V} {k : Str × Int × Int × Int} (h : MkAt K H v k) (s : Same H H') : MkAt K H' v k := let ⟨t, u, e, h1, h2⟩ := h; ⟨t, u, e, s _ _ h1, h2.same s⟩
theorem MkAt.ext {K : PySem.W.Frag} {H H' : Hp} {v : V} {k : Str × Int × Int × Int} (h : MkAt K H v k) (s : LamX.ExtN H H') : MkAt K H' v k := let ⟨t, u, e, h1, h2⟩ := h; ⟨t, u, e, s _ _ h1 (fun _ z => nomatch z), h2.ext s⟩
def MksAt (K : PySem.W.Frag) (H : Hp) (vs : List V) (ks : List (Str × Int × Int × Int)) : Prop := vs.length = ks.length ∧ ∀ (j : Nat) (v : V) (k : Str × Int × Int × Int), vs[j]? = some v → ks[j]? = some k → MkAt K H v k
theorem MksAt.imp {K : PySem.W.Frag} {H H' : Hp} {vs : List V} {ks : List (Str × Int × Int × Int)} (h : MksAt K H vs ks) (s : ∀ v k, MkAt K H v k → MkAt K H' v k) : MksAt K H' vs ks := ⟨h.1, fun j v k h1 h2 => s v k (h.2 j v k h1 h2)⟩
theorem MksAt.snoc {K : PySem.W.Frag} {H : Hp} {vs : List V} {ks : List (Str × Int × Int × Int)} {v : V} {k : Str × Int × Int × Int} (h : MksAt K H vs ks) (n : MkAt K H v k) : MksAt K H (vs ++ [v]) (ks ++ [k]) := by
  refine ⟨by rw [List.length_append, List.length_append, h.1]; rfl, fun j x y h1 h2 => ?_⟩
  rcases Nat.lt_or_ge j vs.length with hj | hj
  · rw [List.getElem?_append_left hj] at h1
    rw [List.getElem?_append_left (by rw [← h.1]; exact hj)] at h2
    exact h.2 j x y h1 h2
  · rw [List.getElem?_append_right hj] at h1
    rw [List.getElem?_append_right (by rw [← h.1]; exact hj)] at h2
    have e0 : j - vs.length = 0 := by
      have := (List.getElem?_eq_some_iff.mp h1).1
      rw [List.length_singleton] at this
      omega
    rw [e0] at h1
    rw [← h.1, e0] at h2
    cases h1
    cases h2
    exact n
/-- the marks of a piece -/
def pmL (op cl : Str) (nd : Nat) (db : Bool) (n d : Nat) : List (Str × Int × Int × Int) :=
  (if cl ≠ "" then [(cl, if 1 < d then ((n : Int), (d : Int) - 1, (0 : Int)) else ((-1 : Int), (0 : Int), (0 : Int)))] else []) ++ ((if d < nd then [(op, ((n : Int), (d : Int) + 1, (0 : Int)))] else []) ++ (if db = true then [(S (repL 2 (TL.tl cl)), ((n : Int), (d : Int), (0 : Int)))] else []))
def sp2_pieceMarks (K : PySem.W.Frag) (CR : Addr) : Sp := fun vs H Q _ => ∃ (a dx : Addr) (k op cl : Str) (nd : Nat) (es : Str) (db ln : Bool) (n d : Nat), vs = [.ref a, .int (n : Int), .int (d : Int)] ∧ H a = some (.ins CR dx (ruF k op cl nd es db ln)) ∧ op.length ≤ 50 ∧ cl.length ≤ 50 ∧
  ∀ (H' : Hp) (L : Addr) (ms : List V), Same H H' → H L = none → H' L = some (.lst ms) → MksAt K H' ms (pmL op cl nd db n d) → Q (.ref L) H'
def PInvX (K : PySem.W.Frag) (H : Hp) (L : Addr) (ks : List (Str × Int × Int × Int)) (ms : List V) (H' : Hp) : Prop := H' L = some (.lst ms) ∧ Same H H' ∧ MksAt K H' ms ks
theorem pinvX_push {K : PySem.W.Frag} {H H1 H2 : Hp} {L t : Addr} {ks : List (Str × Int × Int × Int)} {ms : List V} {x : Str} {u : V} {m : Int × Int × Int} (hL : H L = none) (h : PInvX K H L ks ms H1) (s : Same H1 H2) (ht : H2 t = some (.tup [.str x, u])) (hm : ModeAt K H2 u m) : PInvX K H L (ks ++ [(x, m)]) (ms ++ [.ref t]) (upd H2 L (.lst (ms ++ [.ref t]))) := by
  obtain ⟨h1, h2, h3⟩ := h
  have hL2 := s _ _ h1
  have keep : ∀ v k, MkAt K H2 v k → MkAt K (upd H2 L (.lst (ms ++ [.ref t]))) v k := fun v k ⟨t', u', e, q1, b, e2, q2⟩ =>
    ⟨t', u', e, by rw [upd_ne (ne_of q1 hL2 fun y => nomatch y)]; exact q1, b, e2, sqT_upd q2 hL2 (fun _ z => nomatch z) (fun _ _ z => nomatch z)⟩
  refine ⟨upd_same, fun b o z => by rw [upd_ne (ne_of_none z hL)]; exact s _ _ (h2 b o z), ?_⟩
  exact ((h3.imp fun v k q => q.same s).snoc ⟨t, u, rfl, ht, hm⟩).imp keep
theorem mks_perm {K : PySem.W.Frag} {H : Hp} {xs ys : List V} {ks : List (Str × Int × Int × Int)} (h : MksAt K H xs ks) (p : ys.Perm xs) : ∃ zs : List (V × (Str × Int × Int × Int)), zs.map Prod.fst = ys ∧ (zs.map Prod.snd).Perm ks ∧ ∀ z ∈ zs, MkAt K H z.1 z.2 := by
  have e1 : (xs.zip ks).map Prod.fst = xs := List.map_fst_zip (by rw [h.1]; exact Nat.le_refl _)
  have e2 : (xs.zip ks).map Prod.snd = ks := List.map_snd_zip (by rw [h.1]; exact Nat.le_refl _)
  obtain ⟨zs, q, e⟩ := perm_map_inv (f := Prod.fst) (l := xs.zip ks) p e1.symm
  refine ⟨zs, e.symm, ?_, fun z hz => ?_⟩
  · have := q.map Prod.snd
    rw [e2] at this
    exact this
  · have hz' := q.mem_iff.mp hz
    obtain ⟨j, hj, ej⟩ := List.mem_iff_getElem.mp hz'
    have g := List.getElem?_eq_getElem hj
    rw [ej, List.getElem?_zip_eq_some] at g
    exact h.2 j _ _ g.1 g.2
theorem mks_of {K : PySem.W.Frag} {H : Hp} {zs : List (V × (Str × Int × Int × Int))} (h : ∀ z ∈ zs, MkAt K H z.1 z.2) : MksAt K H (zs.map Prod.fst) (zs.map Prod.snd) := by
  refine ⟨by rw [List.length_map, List.length_map], fun j v k h1 h2 => ?_⟩
  rw [List.getElem?_map] at h1 h2
  cases g : zs[j]? with
  | none => rw [g] at h1; cases h1
  | some z =>
    rw [g] at h1 h2
    cases h1
    cases h2
    exact h z (List.mem_of_getElem? g)
def sp2_longestFirst (K : PySem.W.Frag) (P0 : Addr) : Sp := fun vs H Q _ => ∃ (a : Addr) (xs : List V) (ks : List (Str × Int × Int × Int)), vs = [.ref a] ∧ SqL K H a xs ∧ xs.length < 64 ∧ MksAt K H xs ks ∧ (∀ k ∈ ks, k.1.length ≤ 100) ∧ LamX.Tabs (T0 P0) H ∧
  ∀ (H' : Hp) (b : Addr) (ys : List V) (kys : List (Str × Int × Int × Int)), LamX.ExtN H H' → LamX.Tabs (T0 P0) H' → H' b = some (.tup ys) → kys.Perm ks → (kys.Pairwise fun p q => q.1.length ≤ p.1.length) → MksAt K H' ys kys → Q (.ref b) H'
/-! ### the reader, exactly -/
structure Fd where
  k : Str
  op : Str
  cl : Str
  nd : Nat
  es : Str
  db : Bool
  ln : Bool
def FdAt (CR : Addr) (H : Hp) (v : V) (f : Fd) : Prop := ∃ a dx, v = .ref a ∧ H a = some (.ins CR dx (ruF f.k f.op f.cl f.nd f.es f.db f.ln))
theorem FdAt.keep {CR : Addr} {H H' : Hp} {v : V} {f : Fd} (h : FdAt CR H v f) (s : ∀ b C dx fs, H b = some (.ins C dx fs) → H' b = some (.ins C dx fs)) : FdAt CR H' v f := let ⟨a, dx, e, h1⟩ := h; ⟨a, dx, e, s _ _ _ _ h1⟩
def keyOf (m : Int × Int × Int) : List Key := [.inl m.1, .inl m.2.1, .inl m.2.2]
theorem keyOf_inj {m n : Int × Int × Int} (h : keyOf m = keyOf n) : m = n := by
  obtain ⟨a, b, c⟩ := m
  obtain ⟨a', b', c'⟩ := n
  unfold keyOf at h
  simp only [List.cons.injEq, Sum.inl.injEq, and_true] at h
  obtain ⟨rfl, rfl, rfl⟩ := h
  rfl
def KeyAt (K : PySem.W.Frag) (H : Hp) (xs : List Ent) (m : Int × Int × Int) (ks : List (Str × Int × Int × Int)) : Prop :=
  ∃ (b2 b : Addr) (ys : List V) (kys : List (Str × Int × Int × Int)), atKey xs (keyOf m) = some (b2, .ref b) ∧ H b = some (.tup ys) ∧ kys.Perm ks ∧ (kys.Pairwise fun p q => q.1.length ≤ p.1.length) ∧ MksAt K H ys kys
theorem MkAt.updX {P : Program} {w : World} {K : PySem.W.Frag} {H : Hp} {p : Addr} {ys : List Ent} {o : HO} {v : V} {k : Str × Int × Int × Int} (h : MkAt K H v k) (e : H p = some (DX P w p ys)) : MkAt K (upd H p o) v k := let ⟨t, u, ev, h1, b, e2, h2⟩ := h
  ⟨t, u, ev, by rw [upd_ne (ne_of h1 e fun z => dx_ne.2.1 _ z.symm)]; exact h1, b, e2, sqT_upd h2 e dx_ne.2.1 dx_ne.2.2⟩
theorem KeyAt.ext {K : PySem.W.Frag} {H H' : Hp} {xs : List Ent} {m : Int × Int × Int} {ks : List (Str × Int × Int × Int)} (h : KeyAt K H xs m ks) (s : LamX.ExtN H H') : KeyAt K H' xs m ks := let ⟨b2, b, ys, kys, h1, h2, h3, h4, h5⟩ := h
  ⟨b2, b, ys, kys, h1, s _ _ h2 (fun _ z => nomatch z), h3, h4, h5.imp fun v k q => q.ext s⟩
theorem KeyAt.put {P : Program} {w : World} {K : PySem.W.Frag} {H : Hp} {p b : Addr} {u : Value} {xs : List Ent} {o : HO} {m m2 : Int × Int × Int} {ks : List (Str × Int × Int × Int)} (h : KeyAt K H xs m ks) (e : H p = some (DX P w p xs)) (n : atKey xs (keyOf m2) = none) : KeyAt K (upd H p o) (storedH xs (keyOf m2) b u) m ks := by
  obtain ⟨b2, b', ys, kys, h1, h2, h3, h4, h5⟩ := h
  refine ⟨b2, b', ys, kys, ?_, by rw [upd_ne (ne_of h2 e fun z => dx_ne.2.1 _ z.symm)]; exact h2, h3, h4, h5.imp fun v k q => q.updX e⟩
  rw [at_stored n, if_neg (fun z => by rw [z, n] at h1; cases h1)]
  exact h1
def opL : Nat → List Fd → List (Str × Int × Int × Int)
  | _, [] => []
  | k, f :: fs => (f.op, ((k : Nat) : Int), (1 : Int), (0 : Int)) :: opL (k + 1) fs
theorem opL_snoc : ∀ {fs : List Fd} {k : Nat} {f : Fd}, opL k (fs ++ [f]) = opL k fs ++ [(f.op, ((k + fs.length : Nat) : Int), (1 : Int), (0 : Int))]
  | [], k, f => rfl
  | g :: fs, k, f => by
    show _ :: opL (k + 1) (fs ++ [f]) = _ :: (opL (k + 1) fs ++ _)
    rw [opL_snoc, show k + 1 + fs.length = k + (g :: fs).length by rw [List.length_cons]; omega]
def MarksMap (P : Program) (w : World) (K : PySem.W.Frag) (H : Hp) (p : Addr) (fs : List Fd) : Prop :=
  ∃ xs : List Ent, H p = some (DX P w p xs) ∧ EntsAt K H xs ∧ KeyAt K H xs (-1, 0, 0) (opL 0 fs) ∧ ∀ (i : Nat) (f : Fd) (d : Nat), fs[i]? = some f → 1 ≤ d → d ≤ max f.nd 1 → KeyAt K H xs ((i : Int), (d : Int), 0) (pmL f.op f.cl f.nd f.db i d)
def FdsAt (CR : Addr) (H : Hp) (rs : List V) (fs : List Fd) : Prop := rs.length = fs.length ∧ ∀ (j : Nat) (r : V) (f : Fd), rs[j]? = some r → fs[j]? = some f → FdAt CR H r f
def FdOk (f : Fd) : Prop := f.op.length ≤ 50 ∧ f.cl.length ≤ 50 ∧ f.nd ≤ 4
def sp2_Reader_init (P : Program) (w : World) (K : PySem.W.Frag) (CR CD P0 : Addr) : Sp := fun vs H Q _ => ∃ (a dx b : Addr) (rs : List V) (fs : List Fd), vs = [.ref a, .ref b] ∧ H a = some (.ins CD dx []) ∧ H b = some (.tup rs) ∧ rs.length ≤ 6 ∧ FdsAt CR H rs fs ∧ (∀ f ∈ fs, FdOk f) ∧ LamX.Tabs (T0 P0) H ∧
  ∀ (H' : Hp) (p : Addr), ExX a H H' → LamX.Tabs (T0 P0) H' → H' a = some (.ins CD dx [("parts", .ref b), ("_marks", .ref p)]) → MarksMap P w K H' p fs → Q .non H'

end
end Vf

set_option maxRecDepth 100000
set_option maxHeartbeats 4000000
namespace Vf
open PySem PySem.Spec PyProof.Rows L2 SX
section
variable {P : Program} {w : World} {K : PySem.W.Frag} {mg : Str → Option Value} {base : Heap}
def fdOf (ws : List Str) : Fd := ⟨⟨#[k0Of ws]⟩, ws.getD 1 "", cOf ws, dOf ws, eOf ws, decide (("doubled" : Str) ∈ ws.drop 4), lnOf ws⟩
def fdsOf (ls : List Str) : List Fd := ls.map fun l => fdOf (spS l)
def FdB (f : Fd) : Prop := f.op.length ≤ 4 ∧ f.cl.length ≤ 4 ∧ f.nd ≤ 4 ∧ f.es.length ≤ 4
theorem FdB.ok {f : Fd} (h : FdB f) : FdOk f := by
  obtain ⟨a, b, c, d⟩ := h
  exact ⟨by omega, by omega, c⟩
theorem FdAt.ru {CR : Addr} {H : Hp} {v : V} {f : Fd} (h : FdAt CR H v f) (b : FdB f) : RuG CR H v := let ⟨a, dx, e, h1⟩ := h; ⟨a, dx, _, _, _, _, _, _, _, e, h1, b.1, b.2.1, b.2.2.1, b.2.2.2⟩
theorem cv_fd {ws os : List Str} (cv : CV ws os) : FdB (fdOf ws) := by
  have h4 := cv.2.1
  refine ⟨?_, ?_, ?_, ?_⟩
  · show (ws.getD 1 "").length ≤ 4
    rw [getD_at (by omega : 1 < ws.length)]
    exact (mk_len (vd_1 cv.1 (by omega))).2
  · show (cOf ws).length ≤ 4
    unfold cOf
    have g3 : ws.getD 3 "" = ws[3] := getD_at (by omega)
    rw [g3]
    by_cases c : ws[3] = "line"
    · rw [if_pos c]; decide +kernel
    · rw [if_neg c]; exact (mk_len ((vd_3 cv.1 h4).resolve_left c)).2
  · show dOf ws ≤ 4
    unfold dOf depN
    split
    · split
      · decide
      · split <;> decide
    · decide
  · show (eOf ws).length ≤ 4
    unfold eOf
    by_cases c : ("escape" : Str) ∈ ws.drop 4
    · obtain ⟨u, hu1, _, hu2⟩ := opt_next cv (.inr rfl) c
      rw [if_pos c, getD_of hu1]
      have := (hu2 rfl).1
      omega
    · rw [if_neg c]; decide +kernel
theorem fw_cv : ∀ {ls os : List Str} {k : Nat}, fwGo k ls os = none → ∀ l ∈ ls, ∃ os', CV (spS l) os'
  | [], _, _, _, l, hl => by cases hl
  | l :: r, os, k, h, x, hx => by
    rw [fwGo_cons] at h
    split at h
    · cases h
    · cases e : wcol l os with
      | some c => rw [e] at h; cases h
      | none =>
        rw [e] at h
        rcases List.mem_cons.mp hx with rfl | hx
        · exact ⟨os, wcol_cv e⟩
        · exact fw_cv h x hx
theorem fds_ok {ls : List Str} (h : fw ls = none) : ∀ f ∈ fdsOf ls, FdB f := fun f hf => by
  obtain ⟨l, hl, rfl⟩ := List.mem_map.mp hf
  obtain ⟨os, cv⟩ := fw_cv h l hl
  exact cv_fd cv
theorem fds_at {CR : Addr} {H : Hp} {rs : List V} {ls : List Str} (h : RusW CR H rs ls) (e : rs.length = ls.length) : FdsAt CR H rs (fdsOf ls) := by
  refine ⟨by unfold fdsOf; rw [List.length_map]; exact e, fun j r f h1 h2 => ?_⟩
  unfold fdsOf at h2
  rw [List.getElem?_map] at h2
  obtain ⟨l, hl, rfl⟩ := Option.map_eq_some_iff.mp h2
  exact h j r l h1 hl
theorem FdsAt.keep {CR : Addr} {H H' : Hp} {rs : List V} {fs : List Fd} (h : FdsAt CR H rs fs) (s : ∀ (b dx : Addr) (f : Fd), H b = some (.ins CR dx (ruF f.k f.op f.cl f.nd f.es f.db f.ln)) → H' b = some (.ins CR dx (ruF f.k f.op f.cl f.nd f.es f.db f.ln))) : FdsAt CR H' rs fs := ⟨h.1, fun j r f h1 h2 => let ⟨a, dx, e, h3⟩ := h.2 j r f h1 h2; ⟨a, dx, e, s a dx f h3⟩⟩
/-- a tongue, exactly (but for its weight) -/
def TgX (P : Program) (w : World) (K : PySem.W.Frag) (CR CD CG : Addr) (H : Hp) (a : Addr) (t : Str) : Prop :=
  ∃ (dx rt : Addr) (wi : Int) (rd dd b p : Addr) (rs : List V), H a = some (.ins CG dx (tgF t rt wi rd)) ∧ H rt = some (.tup ((lnsOf t).map V.str)) ∧
    H rd = some (.ins CD dd [("parts", .ref b), ("_marks", .ref p)]) ∧ H b = some (.tup rs) ∧ FdsAt CR H rs (fdsOf (lnsOf t)) ∧ MarksMap P w K H p (fdsOf (lnsOf t))
def sp2_Tongue_init (P : Program) (w : World) (K : PySem.W.Frag) (CR CD CG CT P0 : Addr) : Sp := fun vs H Q E => ∃ (a dx : Addr) (t : Str), vs = [.ref a, .str t] ∧ H a = some (.ins CG dx []) ∧ t.length ≤ 100000 ∧ LnOk (lnsOf t) ∧ LamX.Tabs (T0 P0) H ∧
  (fw (lnsOf t) = none → ∀ H' : Hp, ExX a H H' → LamX.Tabs (T0 P0) H' → TgX P w K CR CD CG H' a t → Q .non H') ∧ ∀ p, fw (lnsOf t) = some p → ErT CT H p E

end
end Vf

set_option maxRecDepth 100000
set_option maxHeartbeats 4000000
namespace Vf
open PySem PySem.Spec PyProof.Rows L2 SX
section
variable {P : Program} {w : World} {K : PySem.W.Frag} {mg : Str → Option Value} {base : Heap}
def R7x (v : V) (H : Hp) (r : Rr) : Prop := ∃ a, v = .ref a ∧ H a = some (.tup (r7 r.k r.o r.c r.d r.e r.db r.ln)) ∧ RrOk r
theorem R7x.tk {v : V} {H H' : Hp} {r : Rr} (h : R7x v H r) (s : Tk H H') : R7x v H' r := let ⟨a, e, h1, h2⟩ := h; ⟨a, e, s _ _ h1, h2⟩
def MkSg (l : List Nat) : Prop := 1 ≤ l.length ∧ l.length ≤ 100 ∧ ∀ c ∈ l, c ∈ mkL
theorem mkL_ok : ∀ c ∈ mkL, c ≠ 10 ∧ c < 1000 := by
  have : (mkL.all fun c => decide (c ≠ 10 ∧ c < 1000)) = true := by decide +kernel
  exact fun c hc => of_decide_eq_true (List.all_eq_true.mp this c hc)
theorem MkSg.sg {l : List Nat} (h : MkSg l) : SgOk l := ⟨h.1, h.2.1, fun c hc => mkL_ok c (h.2.2 c hc)⟩
theorem mk_of {l t : List Nat} (h : MkSg l) (ht : ∀ x ∈ t, x ∈ l) (h1 : 1 ≤ t.length) (h2 : t.length ≤ 4) : isMk (S t) = true := by
  unfold isMk
  rw [S_len, TL.tl_mk, decide_eq_true h1, decide_eq_true h2, Bool.true_and, Bool.true_and, List.all_eq_true]
  exact fun c hc => decide_eq_true (h.2.2 c (ht c hc))
theorem mk_good {w : Str} (h : isMk w = true) : GoodS 8 w := by
  refine ⟨by have := (mk_len h).2; omega, fun c hc => ?_⟩
  unfold isMk at h
  rw [Bool.and_eq_true, Bool.and_eq_true] at h
  exact mkL_ok c (of_decide_eq_true (List.all_eq_true.mp h.2.2 c hc))
theorem eq_of {a b : Str} (h : decide (V.str a = V.str b) = true) : a = b := V.str.inj (of_decide_eq_true h)
theorem ne_of' {a b : Str} (h : (!decide (V.str a = V.str b)) = true) : a ≠ b := fun z => by rw [z, decide_eq_true rfl] at h; cases h
def sp2_newRule : Sp := fun vs H Q _ => ∃ (p c a : Addr) (m : Nat) (o : Str) (l : List Nat), vs = [.ref p, .str o, .ref a, .int 4] ∧ PenAt H p c m ∧ m < 800000 ∧ isMk o = true ∧ H a = some (.lst (l.map one)) ∧ MkSg l ∧
  ∀ (H' : Hp) (v : V) (r : Rr), Ks H H' → PenAt H' p c (m + 20) → R7x v H' r → r.o = o → Q v H'
def sp2_newRules : Sp := fun vs H Q _ => ∃ (p c : Addr) (m n : Nat), vs = [.ref p, .int (n : Int), .int 4] ∧ PenAt H p c m ∧ m < 700000 ∧ 1 ≤ n ∧ n ≤ 8 ∧
  ∀ (H' : Hp) (b : Addr) (rs : List V) (qs : List Rr), Ks H H' → PenAt H' p c (m + 400) → H' b = some (.lst rs) → rs.length = qs.length → 1 ≤ qs.length → qs.length ≤ n → (qs.map Rr.o).Nodup → (∀ (j : Nat) (r : V) (q : Rr), rs[j]? = some r → qs[j]? = some q → R7x r H' q) → Q (.ref b) H'
def sp2_ruleLine : Sp := fun vs H Q _ => ∃ (v : V) (r : Rr), vs = [v] ∧ R7x v H r ∧ ∀ (H' : Hp), Same H H' → Q (.str (lineOf r)) H'
theorem rules_of {H : Hp} : ∀ {ys : List V} {ms : List Str}, ys.length = ms.length → (∀ (i : Nat) (v : V), ys[i]? = some v → ∃ r, R7x v H r ∧ ms[i]? = some r.o) → ∃ qs : List Rr, qs.length = ys.length ∧ qs.map Rr.o = ms ∧ ∀ (j : Nat) (r : V) (q : Rr), ys[j]? = some r → qs[j]? = some q → R7x r H q
  | [], [], _, _ => ⟨[], rfl, rfl, fun _ _ _ z => nomatch z⟩
  | [], _ :: _, h, _ => nomatch h
  | _ :: _, [], h, _ => nomatch h
  | v :: ys, m :: ms, h, g => by
    obtain ⟨qs, h1, h2, h3⟩ := rules_of (ys := ys) (ms := ms) (Nat.succ.inj h) fun i v hv => g (i + 1) v hv
    obtain ⟨r, hr, e⟩ := g 0 v rfl
    have e' : m = r.o := Option.some.inj e
    refine ⟨r :: qs, by rw [List.length_cons, List.length_cons, h1], by rw [List.map_cons, h2, e'], fun j x q hx hq => ?_⟩
    cases j with
    | zero => cases hx; cases hq; exact hr
    | succ j => exact h3 j x q hx hq
theorem words_all {Pz : Str → Prop} (consts32 : ∀ z ∈ (["remark", "quote", "to", "line", "nested", "escape", "doubled", "2", "3", "4"] : List Str), Pz z) (mk_no32 : ∀ {z : Str}, isMk z = true → Pz z) {r : Rr} (h : RrOk r) : ∀ l ∈ wordsOf r, Pz l := by
  intro l hl
  unfold wordsOf optW at hl
  have mc : r.c ≠ "" → Pz r.c := fun z => mk_no32 (h.hc.resolve_left z)
  rcases List.mem_append.mp hl with z | z
  · simp only [List.mem_cons, List.not_mem_nil, or_false] at z
    rcases z with rfl | rfl | rfl | rfl
    · rcases h.hk with e | e <;> rw [e] <;> exact consts32 _ (by simp)
    · exact mk_no32 h.ho
    · exact consts32 _ (by simp)
    · unfold c4
      by_cases e : r.c = ""
      · rw [if_pos e]; exact consts32 _ (by simp)
      · rw [if_neg e]; exact mc e
  · rcases List.mem_append.mp z with z | z
    · split at z
      · rename_i hd
        simp only [List.mem_cons, List.not_mem_nil, or_false] at z
        rcases z with rfl | rfl
        · exact consts32 _ (by simp)
        · have := sd_in (h.hd.resolve_left (by omega)).1
          exact consts32 _ (by simp only [List.mem_cons, List.not_mem_nil, or_false] at this ⊢; rcases this with e | e | e <;> simp [e])
      · cases z
    · rcases List.mem_append.mp z with z | z
      · split at z
        · rename_i he
          simp only [List.mem_cons, List.not_mem_nil, or_false] at z
          rcases z with rfl | rfl
          · exact consts32 _ (by simp)
          · exact mk_no32 (h.he.resolve_left he).1
        · cases z
      · rcases List.mem_append.mp z with z | z
        · split at z
          · rw [List.mem_singleton.mp z]; exact consts32 _ (by simp)
          · cases z
        · split at z
          · rw [List.mem_singleton.mp z]; exact consts32 _ (by simp)
          · cases z
theorem words_short {r : Rr} (h : RrOk r) : ∀ l ∈ wordsOf r, l.length ≤ 8 := words_all (Pz := fun l => l.length ≤ 8) (by
  have : ((["remark", "quote", "to", "line", "nested", "escape", "doubled", "2", "3", "4"] : List Str).all fun z => decide (z.length ≤ 8)) = true := by decide +kernel
  exact fun z hz => of_decide_eq_true (List.all_eq_true.mp this z hz)) (fun m => by have := (mk_len m).2; omega) h
theorem words_len {r : Rr} : (wordsOf r).length ≤ 10 := by
  have e2 : ∀ {c : Prop} [Decidable c] (x y : Str), (if c then [x, y] else []).length ≤ 2 := fun {c} _ x y => by
    by_cases h : c
    · rw [if_pos h]; exact Nat.le_refl _
    · rw [if_neg h]; exact Nat.zero_le _
  have e1 : ∀ {c : Prop} [Decidable c] (x : Str), (if c then [x] else []).length ≤ 1 := fun {c} _ x => by
    by_cases h : c
    · rw [if_pos h]; exact Nat.le_refl _
    · rw [if_neg h]; exact Nat.zero_le _
  unfold wordsOf optW
  rw [List.length_append, List.length_append, List.length_append, List.length_append]
  have a := e2 (c := 0 < r.d) "nested" (sd r.d)
  have b := e2 (c := r.e ≠ "") "escape" r.e
  have c := e1 (c := r.db = true) "doubled"
  have d := e1 (c := r.ln = true) "line"
  have f : ([r.k, r.o, "to", c4 r] : List Str).length = 4 := rfl
  omega
theorem ifl2 {b : Bool} {te : TE} {σ : L2.St} {H2 : Hp} {A : List V} {R : VK} (hA : ∀ R : VK, (∀ p, H2 p = none → R (.ref p) (upd H2 p (.lst A))) → te σ H2 R) (k : ∀ Y H3 ys, Same H2 H3 → H3 Y = some (.lst ys) → ys = (if b = true then A else []) → R (.ref Y) H3) : if b = true then te σ H2 R else tLst tNil σ H2 R := by
  cases b with
  | true => rw [if_pos rfl]; exact hA R fun p hp => k p _ A (same1 hp _) upd_same (if_pos rfl).symm
  | false => rw [if_neg Bool.false_ne_true]; exact ⟨szB (by decide), fun p hp => k p _ [] (same1 hp _) upd_same (if_neg Bool.false_ne_true).symm⟩
def LwX (H0 : Hp) (B : Addr) (ws : List Str) (H' : Hp) : Prop := Same H0 H' ∧ H' B = some (.lst (ws.map V.str))
theorem lwX_cat {H : Hp} {B Y : Addr} {H1 H2 : Hp} {ws ys : List Str} {R : VK} (h : LwX H B ws H1) (s : Same H1 H2) (hY : H2 Y = some (.lst (ys.map V.str))) (hl : ws.length + ys.length ≤ 100) (q : ∀ D H3, Same H2 H3 → LwX H D (ws ++ ys) H3 → R (.ref D) H3) : rCat (.ref B) (.ref Y) H2 R := by
  obtain ⟨s0, h1⟩ := h
  have s2 : Same H H2 := fun b o z => s _ _ (s0 b o z)
  exact ⟨B, Y, _, _, rfl, rfl, s _ _ h1, hY, szB (by rw [List.length_map, List.length_map]; omega), fun D hD => q D _ (same1 hD _) ⟨same_new s2 hD _, by rw [List.map_append]; exact upd_same⟩⟩
theorem ifmap {b : Prop} [Decidable b] {l : List Str} : (if b then l.map V.str else []) = (if b then l else []).map V.str := by
  by_cases h : b
  · rw [if_pos h, if_pos h]
  · rw [if_neg h, if_neg h]; rfl

end
end Vf

set_option maxRecDepth 100000
set_option maxHeartbeats 4000000
namespace Vf
/-! ### how texts are read: the law's way and the program's way, as functions of lists of signs -/
structure Ru where
  k : Nat
  o : List Nat
  c : List Nat
  d : Nat
  e : List Nat
  db : Bool
  ln : Bool
def Sw (m t : List Nat) : Prop := ∃ r, t = m ++ r
instance (m t : List Nat) : Decidable (Sw m t) := decidable_of_iff (t.take m.length = m) ⟨fun h => ⟨t.drop m.length, by conv => lhs; rw [← List.take_append_drop m.length t, h]⟩, fun ⟨r, h⟩ => by rw [h, List.take_left]⟩
theorem sw_len {m t : List Nat} (h : Sw m t) : m.length ≤ t.length := by
  obtain ⟨r, rfl⟩ := h; rw [List.length_append]; omega
theorem sw_eq {m n t : List Nat} (h1 : Sw m t) (h2 : Sw n t) (h : m.length = n.length) : m = n := by
  obtain ⟨r, rfl⟩ := h1
  obtain ⟨s, e⟩ := h2
  exact (List.append_inj e h).1
structure RuOk (r : Ru) : Prop where
  o1 : 1 ≤ r.o.length
  dbd : r.db = true → r.d = 0 ∧ r.c ≠ []
  dc : 0 < r.d → r.c ≠ [] ∧ r.c ≠ r.o
  e1 : r.e.length ≤ 1
/-- the first of those that stand there, of marks by their length -/
theorem first_some {α : Type} {len : α → Nat} {p : α → Bool} : ∀ {ys : List α} {m : α}, ys.Pairwise (fun a b => len b ≤ len a) → ys.find? p = some m → m ∈ ys ∧ p m = true ∧ ∀ n ∈ ys, p n = true → len n ≤ len m
  | [], _, _, h => by cases h
  | y :: ys, m, hs, h => by
    rw [List.pairwise_cons] at hs
    rw [List.find?_cons] at h
    cases hp : p y with
    | true =>
      rw [hp] at h
      cases h
      refine ⟨.head _, hp, fun n hn _ => ?_⟩
      rcases List.mem_cons.mp hn with rfl | hn
      · exact Nat.le_refl _
      · exact hs.1 n hn
    | false =>
      rw [hp] at h
      obtain ⟨h1, h2, h3⟩ := first_some hs.2 h
      refine ⟨.tail _ h1, h2, fun n hn q => ?_⟩
      rcases List.mem_cons.mp hn with rfl | hn
      · rw [hp] at q; cases q
      · exact h3 n hn q
/-! the law's steps -/
def stepL (r : Ru) (t : List Nat) (dep : Nat) : Nat × Nat :=
  if r.e ≠ [] ∧ t.take 1 = r.e then (min 2 t.length, dep)
  else if r.db = true ∧ Sw (r.c ++ r.c) t then (2 * r.c.length, dep)
  else if dep < r.d ∧ Sw r.o t ∧ (¬ (r.c ≠ [] ∧ Sw r.c t) ∨ r.c.length < r.o.length) then (r.o.length, dep + 1)
  else if r.c ≠ [] ∧ Sw r.c t then (r.c.length, dep - 1)
  else if t.take 1 = [10] ∧ (r.c = [] ∨ r.ln = true) then (0, 0)
  else (1, dep)
/-! the program's steps: the marks of a piece, with the depth behind each -/
def marksP (r : Ru) (dep : Nat) : List (List Nat × Nat) :=
  (if r.c ≠ [] then [(r.c, dep - 1)] else []) ++ ((if dep < r.d then [(r.o, dep + 1)] else []) ++ (if r.db = true then [(r.c ++ r.c, dep)] else []))
def stepP (r : Ru) (ys : List (List Nat × Nat)) (t : List Nat) (dep : Nat) : Nat × Nat :=
  match ys.find? fun m => decide (Sw m.1 t) with
  | some m => (m.1.length, m.2)
  | none => if t.take 1 = [10] ∧ (r.c = [] ∨ r.ln = true) then (0, 0) else (1, dep)
/-- where no escape stands, both ways step alike -/
theorem step_eq {r : Ru} (h : RuOk r) {ys : List (List Nat × Nat)} {dep : Nat} (hp : ys.Perm (marksP r dep)) (hs : ys.Pairwise fun a b => b.1.length ≤ a.1.length) {t : List Nat} (he : ¬ (r.e ≠ [] ∧ t.take 1 = r.e)) : stepP r ys t dep = stepL r t dep := by
  have memc : r.c ≠ [] → (r.c, dep - 1) ∈ ys := fun z => hp.mem_iff.mpr (by unfold marksP; rw [if_pos z]; simp)
  have memo : dep < r.d → (r.o, dep + 1) ∈ ys := fun z => hp.mem_iff.mpr (by unfold marksP; rw [if_pos z]; simp)
  have memd : r.db = true → (r.c ++ r.c, dep) ∈ ys := fun z => hp.mem_iff.mpr (by unfold marksP; rw [if_pos z]; simp)
  have mems : ∀ m ∈ ys, (m = (r.c, dep - 1) ∧ r.c ≠ []) ∨ (m = (r.o, dep + 1) ∧ dep < r.d) ∨ (m = (r.c ++ r.c, dep) ∧ r.db = true) := fun m hm => by
    have := hp.mem_iff.mp hm
    unfold marksP at this
    rcases List.mem_append.mp this with z | z
    · split at z
      · rename_i q
        exact .inl ⟨List.mem_singleton.mp z, q⟩
      · cases z
    · rcases List.mem_append.mp z with z | z
      · split at z
        · rename_i q
          exact .inr (.inl ⟨List.mem_singleton.mp z, q⟩)
        · cases z
      · split at z
        · rename_i q
          exact .inr (.inr ⟨List.mem_singleton.mp z, q⟩)
        · cases z
  have cc : Sw (r.c ++ r.c) t → Sw r.c t := fun ⟨q, z⟩ => ⟨r.c ++ q, by rw [z, List.append_assoc]⟩
  have c1 : r.c ≠ [] → 1 ≤ r.c.length := fun z => List.length_pos_iff.mpr z
  unfold stepP stepL
  rw [if_neg he]
  cases hf : ys.find? fun m => decide (Sw m.1 t) with
  | none =>
    have no : ∀ m ∈ ys, ¬ Sw m.1 t := fun m hm => by
      have := List.find?_eq_none.mp hf m hm
      simpa using this
    dsimp only
    have nc : ¬ (r.c ≠ [] ∧ Sw r.c t) := fun z => no _ (memc z.1) z.2
    have nd : ¬ (r.db = true ∧ Sw (r.c ++ r.c) t) := fun z => no _ (memd z.1) z.2
    have no2 : ¬ (dep < r.d ∧ Sw r.o t ∧ (¬ (r.c ≠ [] ∧ Sw r.c t) ∨ r.c.length < r.o.length)) := fun z => no _ (memo z.1) z.2.1
    rw [if_neg nd, if_neg no2, if_neg nc]
  | some m =>
    obtain ⟨h1, h2, h3⟩ := first_some (len := fun m : List Nat × Nat => m.1.length) hs hf
    have hm : Sw m.1 t := of_decide_eq_true h2
    have mx : ∀ n ∈ ys, Sw n.1 t → n.1.length ≤ m.1.length := fun n hn q => h3 n hn (decide_eq_true q)
    dsimp only
    by_cases a1 : r.db = true ∧ Sw (r.c ++ r.c) t
    · rw [if_pos a1]
      have d0 := h.dbd a1.1
      have b1 := mx _ (memd a1.1) a1.2
      have b2 := c1 d0.2
      rcases mems m h1 with ⟨rfl, _⟩ | ⟨rfl, z⟩ | ⟨rfl, _⟩
      · rw [List.length_append] at b1; dsimp only at b1; omega
      · omega
      · show ((r.c ++ r.c).length, dep) = _
        rw [List.length_append, Nat.two_mul]
    · rw [if_neg a1]
      by_cases a2 : dep < r.d ∧ Sw r.o t ∧ (¬ (r.c ≠ [] ∧ Sw r.c t) ∨ r.c.length < r.o.length)
      · rw [if_pos a2]
        rcases mems m h1 with ⟨rfl, z⟩ | ⟨rfl, z⟩ | ⟨rfl, z⟩
        · have b1 := mx _ (memo a2.1) a2.2.1
          rcases a2.2.2 with y | y
          · exact absurd ⟨z, hm⟩ y
          · dsimp only at b1; omega
        · rfl
        · exact absurd ⟨z, hm⟩ a1
      · rw [if_neg a2]
        by_cases a3 : r.c ≠ [] ∧ Sw r.c t
        · rw [if_pos a3]
          rcases mems m h1 with ⟨rfl, z⟩ | ⟨rfl, z⟩ | ⟨rfl, z⟩
          · rfl
          · exfalso
            have b1 := mx _ (memc a3.1) a3.2
            dsimp only at b1 hm
            have b2 : ¬ r.c.length < r.o.length := fun y => a2 ⟨z, hm, .inr y⟩
            have b3 : r.c = r.o := sw_eq a3.2 hm (by omega)
            exact (h.dc (by omega)).2 b3
          · exact absurd ⟨z, hm⟩ a1
        · exfalso
          rcases mems m h1 with ⟨rfl, z⟩ | ⟨rfl, z⟩ | ⟨rfl, z⟩
          · exact a3 ⟨z, hm⟩
          · exact a2 ⟨z, hm, .inl a3⟩
          · exact a1 ⟨z, hm⟩
/-! ### openings -/
def opGo (t : List Nat) : Nat → List Ru → Option Nat × Nat → Option Nat × Nat
  | _, [], b => b
  | k, r :: rs, b => opGo t (k + 1) rs (if Sw r.o t ∧ (b.1 = none ∨ b.2 < r.o.length) then (some k, r.o.length) else b)
def openL (rs : List Ru) (t : List Nat) : Option Nat × Nat := opGo t 0 rs (none, 1)
def opMarks : Nat → List Ru → List (List Nat × Nat)
  | _, [] => []
  | k, r :: rs => (r.o, k) :: opMarks (k + 1) rs
theorem opMarks_mem : ∀ {rs : List Ru} {k : Nat} {m : List Nat × Nat}, m ∈ opMarks k rs ↔ ∃ i r, rs[i]? = some r ∧ m = (r.o, k + i)
  | [], k, m => by simp [opMarks]
  | r :: rs, k, m => by
    rw [opMarks, List.mem_cons, opMarks_mem]
    constructor
    · rintro (rfl | ⟨i, q, h1, rfl⟩)
      · exact ⟨0, r, rfl, rfl⟩
      · exact ⟨i + 1, q, h1, by rw [show k + 1 + i = k + (i + 1) by omega]⟩
    · rintro ⟨i, q, h1, rfl⟩
      cases i with
      | zero => cases h1; exact .inl rfl
      | succ i => exact .inr ⟨i, q, h1, by rw [show k + 1 + i = k + (i + 1) by omega]⟩
/-- what the law finds is the longest of those that stand there -/
def OpIs (t : List Nat) (all : List Ru) (b : Option Nat × Nat) (n : Nat) : Prop :=
  (b = (none, 1) ∧ ∀ i r, i < n → all[i]? = some r → ¬ Sw r.o t) ∨ ∃ i r, i < n ∧ all[i]? = some r ∧ Sw r.o t ∧ b = (some i, r.o.length) ∧ ∀ j q, j < n → all[j]? = some q → Sw q.o t → q.o.length ≤ r.o.length
theorem opGo_is {t : List Nat} {all : List Ru} : ∀ {rs : List Ru} {k : Nat} {b : Option Nat × Nat}, all.drop k = rs → k ≤ all.length → OpIs t all b k → OpIs t all (opGo t k rs b) all.length
  | [], k, b, e, hk, h => by
    have : all.length ≤ k := List.drop_eq_nil_iff.mp e
    have e2 : k = all.length := by omega
    subst e2
    exact h
  | r :: rs, k, b, e, hk, h => by
    have hlt : k < all.length := by
      rcases Nat.lt_or_ge k all.length with z | z
      · exact z
      · rw [List.drop_eq_nil_of_le z] at e; cases e
    have hr : all[k]? = some r := by
      have e1 : all.drop k = all[k] :: all.drop (k + 1) := List.drop_eq_getElem_cons hlt
      rw [e1] at e
      rw [List.getElem?_eq_getElem hlt]
      exact congrArg some (List.cons.inj e).1
    have hd : all.drop (k + 1) = rs := by
      have e1 : all.drop k = all[k] :: all.drop (k + 1) := List.drop_eq_getElem_cons hlt
      rw [e1] at e
      exact (List.cons.inj e).2
    rw [opGo]
    refine opGo_is hd (by omega) ?_
    rcases h with ⟨rfl, h2⟩ | ⟨i, q, h1, h2, h3, rfl, h5⟩
    · by_cases c : Sw r.o t
      · rw [if_pos ⟨c, .inl rfl⟩]
        refine .inr ⟨k, r, by omega, hr, c, rfl, fun j q hj hq hs => ?_⟩
        rcases Nat.lt_or_ge j k with z | z
        · exact absurd hs (h2 j q z hq)
        · have : j = k := by omega
          subst this
          rw [hr] at hq; cases hq; exact Nat.le_refl _
      · rw [if_neg (fun z => c z.1)]
        refine .inl ⟨rfl, fun j q hj hq => ?_⟩
        rcases Nat.lt_or_ge j k with z | z
        · exact h2 j q z hq
        · have : j = k := by omega
          subst this
          rw [hr] at hq; cases hq; exact c
    · by_cases c : Sw r.o t ∧ q.o.length < r.o.length
      · rw [if_pos ⟨c.1, .inr c.2⟩]
        refine .inr ⟨k, r, by omega, hr, c.1, rfl, fun j p hj hp hs => ?_⟩
        rcases Nat.lt_or_ge j k with z | z
        · have := h5 j p z hp hs; omega
        · have : j = k := by omega
          subst this
          rw [hr] at hp; cases hp; exact Nat.le_refl _
      · rw [if_neg (fun z => z.2.elim (fun y => nomatch y) fun y => c ⟨z.1, y⟩)]
        refine .inr ⟨i, q, by omega, h2, h3, rfl, fun j p hj hp hs => ?_⟩
        rcases Nat.lt_or_ge j k with z | z
        · exact h5 j p z hp hs
        · have : j = k := by omega
          subst this
          rw [hr] at hp; cases hp
          rcases Nat.lt_or_ge q.o.length r.o.length with y | y
          · exact absurd ⟨hs, y⟩ c
          · exact y
theorem openL_is (rs : List Ru) (t : List Nat) : OpIs t rs (openL rs t) rs.length := opGo_is (List.drop_zero ..) (Nat.zero_le _) (.inl ⟨rfl, fun i r h => absurd h (Nat.not_lt_zero _)⟩)
/-- the program's opening: the first of the marks by their length -/
def openP (ys : List (List Nat × Nat)) (t : List Nat) : Option Nat × Nat :=
  match ys.find? fun m => decide (Sw m.1 t) with
  | some m => (some m.2, m.1.length)
  | none => (none, 1)
theorem open_eq {rs : List Ru} {ys : List (List Nat × Nat)} (hp : ys.Perm (opMarks 0 rs)) (hs : ys.Pairwise fun a b => b.1.length ≤ a.1.length) (nd : ∀ (i j : Nat) (q r : Ru), rs[i]? = some q → rs[j]? = some r → q.o = r.o → i = j) (t : List Nat) : openP ys t = openL rs t := by
  have mem : ∀ {m}, m ∈ ys ↔ ∃ i r, rs[i]? = some r ∧ m = (r.o, i) := fun {m} => by
    rw [hp.mem_iff, opMarks_mem]
    constructor
    · rintro ⟨i, r, h, rfl⟩; exact ⟨i, r, h, by rw [Nat.zero_add]⟩
    · rintro ⟨i, r, h, rfl⟩; exact ⟨i, r, h, by rw [Nat.zero_add]⟩
  unfold openP
  cases hf : ys.find? fun m => decide (Sw m.1 t) with
  | none =>
    have no : ∀ m ∈ ys, ¬ Sw m.1 t := fun m hm => by simpa using List.find?_eq_none.mp hf m hm
    rcases openL_is rs t with ⟨e, _⟩ | ⟨i, r, h1, h2, h3, _⟩
    · exact e.symm
    · exact absurd h3 (no _ (mem.mpr ⟨i, r, h2, rfl⟩))
  | some m =>
    obtain ⟨h1, h2, h3⟩ := first_some (len := fun m : List Nat × Nat => m.1.length) hs hf
    obtain ⟨i, r, hr, rfl⟩ := mem.mp h1
    have hm : Sw r.o t := of_decide_eq_true h2
    have hi : i < rs.length := (List.getElem?_eq_some_iff.mp hr).1
    rcases openL_is rs t with ⟨_, e⟩ | ⟨j, q, k1, k2, k3, e, k5⟩
    · exact absurd hm (e i r hi hr)
    · have a1 := k5 i r hi hr hm
      have a2 := h3 _ (mem.mpr ⟨j, q, k2, rfl⟩) (decide_eq_true k3)
      dsimp only at a2
      have a3 : q.o = r.o := sw_eq k3 hm (by omega)
      have a4 := nd j i q r k2 hr a3
      subst a4
      rw [e, a3]
/-! ### pieces -/
abbrev Pc := Nat × Nat × Nat
def outL (rs : List Ru) : Nat → Option Pc → Nat → List Nat → List Pc
  | 0, _, _, _ => []
  | _ + 1, none, _, [] => []
  | _ + 1, some (k, _, s), p, [] => [(k, s, p)]
  | f + 1, none, p, c :: r => match openL rs (c :: r) with
    | (none, _) => outL rs f none (p + 1) r
    | (some k, m) => outL rs f (some (k, 1, p)) (p + m) ((c :: r).drop m)
  | f + 1, some (k, dep, s), p, c :: r => match rs[k]? with
    | none => []
    | some ru => if (stepL ru (c :: r) dep).2 = 0 then (k, s, p + (stepL ru (c :: r) dep).1) :: outL rs f none (p + (stepL ru (c :: r) dep).1) ((c :: r).drop (stepL ru (c :: r) dep).1)
      else outL rs f (some (k, (stepL ru (c :: r) dep).2, s)) (p + (stepL ru (c :: r) dep).1) ((c :: r).drop (stepL ru (c :: r) dep).1)
/-- the program's, with its own steps; es: the last sign was an escape -/
def outP (rs : List Ru) : Nat → Option (Nat × Nat × Bool × Nat) → Nat → List Nat → List Pc
  | 0, _, _, _ => []
  | _ + 1, none, _, [] => []
  | _ + 1, some (k, _, _, s), p, [] => [(k, s, p)]
  | f + 1, none, p, c :: r => match openL rs (c :: r) with
    | (none, _) => outP rs f none (p + 1) r
    | (some k, m) => outP rs f (some (k, 1, false, p)) (p + m) ((c :: r).drop m)
  | f + 1, some (k, dep, true, s), p, _ :: r => outP rs f (some (k, dep, false, s)) (p + 1) r
  | f + 1, some (k, dep, false, s), p, c :: r => match rs[k]? with
    | none => []
    | some ru => if ru.e ≠ [] ∧ [c] = ru.e then outP rs f (some (k, dep, true, s)) (p + 1) r
      else if (stepL ru (c :: r) dep).2 = 0 then (k, s, p + (stepL ru (c :: r) dep).1) :: outP rs f none (p + (stepL ru (c :: r) dep).1) ((c :: r).drop (stepL ru (c :: r) dep).1)
      else outP rs f (some (k, (stepL ru (c :: r) dep).2, false, s)) (p + (stepL ru (c :: r) dep).1) ((c :: r).drop (stepL ru (c :: r) dep).1)
theorem stepL_pos {r : Ru} (h : RuOk r) {t : List Nat} (ht : t ≠ []) {dep : Nat} (hd : 1 ≤ dep) : (1 ≤ (stepL r t dep).1 ∧ (stepL r t dep).1 ≤ t.length) ∨ stepL r t dep = (0, 0) := by
  have l1 : 1 ≤ t.length := List.length_pos_iff.mpr ht
  unfold stepL
  split
  · refine .inl ⟨?_, ?_⟩ <;> dsimp only <;> omega
  · split
    · rename_i q
      have := sw_len q.2
      have := List.length_pos_iff.mpr (h.dbd q.1).2
      rw [List.length_append] at *
      refine .inl ⟨?_, ?_⟩ <;> dsimp only <;> omega
    · split
      · rename_i q
        have := sw_len q.2.1
        exact .inl ⟨h.o1, this⟩
      · split
        · rename_i q
          have := sw_len q.2
          have := List.length_pos_iff.mpr q.1
          refine .inl ⟨?_, ?_⟩ <;> dsimp only <;> omega
        · split
          · exact .inr rfl
          · exact .inl ⟨Nat.le_refl _, l1⟩
theorem openL_pos {rs : List Ru} (ok : ∀ r ∈ rs, RuOk r) {t : List Nat} (ht : t ≠ []) : 1 ≤ (openL rs t).2 ∧ (openL rs t).2 ≤ t.length ∧ ∀ k, (openL rs t).1 = some k → k < rs.length := by
  have l1 : 1 ≤ t.length := List.length_pos_iff.mpr ht
  rcases openL_is rs t with ⟨e, _⟩ | ⟨i, r, h1, h2, h3, e, _⟩
  · rw [e]; exact ⟨Nat.le_refl _, l1, fun k z => nomatch z⟩
  · rw [e]
    refine ⟨(ok r (List.mem_of_getElem? h2)).o1, sw_len h3, fun k z => ?_⟩
    cases z
    exact h1
def muL (m : Option Pc) (t : List Nat) : Nat := 2 * t.length + (match m with | none => 0 | some _ => 1)
def liftP : Option Pc → Option (Nat × Nat × Bool × Nat)
  | none => none
  | some (k, dep, s) => some (k, dep, false, s)
def OkM (rs : List Ru) : Option Pc → Prop
  | none => True
  | some (k, dep, _) => k < rs.length ∧ 1 ≤ dep
theorem stepL_esc {r : Ru} {c : Nat} {t : List Nat} {dep : Nat} (h : r.e ≠ [] ∧ [c] = r.e) : stepL r (c :: t) dep = (min 2 (t.length + 1), dep) := by
  unfold stepL
  rw [if_pos (show r.e ≠ [] ∧ (c :: t).take 1 = r.e from h)]
  rfl
/-- both ways find the same pieces -/
theorem out_eq {rs : List Ru} (ok : ∀ r ∈ rs, RuOk r) : ∀ (n f g : Nat) (m : Option Pc) (p : Nat) (t : List Nat), muL m t ≤ n → muL m t < f → muL m t < g → OkM rs m → outP rs g (liftP m) p t = outL rs f m p t := by
  intro n
  induction n using Nat.strongRecOn with
  | ind n ih =>
  intro f g m p t hn hf hg hm
  obtain ⟨f, rfl⟩ : ∃ f', f = f' + 1 := ⟨f - 1, by omega⟩
  obtain ⟨g, rfl⟩ : ∃ g', g = g' + 1 := ⟨g - 1, by omega⟩
  match m, t with
  | none, [] => rfl
  | some (k, dep, s), [] => rfl
  | none, c :: r =>
    have hp := openL_pos ok (t := c :: r) (List.cons_ne_nil _ _)
    have e0 : muL none (c :: r) = 2 * (r.length + 1) := rfl
    show outP rs (g + 1) none p (c :: r) = outL rs (f + 1) none p (c :: r)
    unfold outP outL
    cases ho : openL rs (c :: r) with
    | mk b w =>
      rw [ho] at hp
      cases b with
      | none =>
        have e1 : muL none r = 2 * r.length := rfl
        exact ih (muL none r) (by omega) f g none (p + 1) r (Nat.le_refl _) (by omega) (by omega) trivial
      | some k =>
        dsimp only at hp ⊢
        rw [List.length_cons] at hp
        have e1 : muL (some (k, 1, p)) ((c :: r).drop w) = 2 * (r.length + 1 - w) + 1 := by
          show 2 * ((c :: r).drop w).length + 1 = _
          rw [List.length_drop, List.length_cons]
        exact ih (muL (some (k, 1, p)) ((c :: r).drop w)) (by omega) f g (some (k, 1, p)) (p + w) _ (Nat.le_refl _) (by omega) (by omega) ⟨hp.2.2 k rfl, Nat.le_refl _⟩
  | some (k, dep, s), c :: r =>
    have e0 : muL (some (k, dep, s)) (c :: r) = 2 * (r.length + 1) + 1 := rfl
    obtain ⟨hk, hd⟩ := hm
    show outP rs (g + 1) (some (k, dep, false, s)) p (c :: r) = outL rs (f + 1) (some (k, dep, s)) p (c :: r)
    unfold outP outL
    rw [List.getElem?_eq_getElem hk]
    dsimp only
    have hr := ok rs[k] (List.getElem_mem hk)
    generalize rs[k] = ru at hr
    by_cases he : ru.e ≠ [] ∧ [c] = ru.e
    · rw [if_pos he, stepL_esc he, if_neg (show ¬ dep = 0 by omega)]
      dsimp only
      obtain ⟨g, rfl⟩ : ∃ g', g = g' + 1 := ⟨g - 1, by omega⟩
      obtain ⟨f, rfl⟩ : ∃ f', f = f' + 1 := ⟨f - 1, by omega⟩
      cases r with
      | nil => rfl
      | cons c2 r2 =>
        have e2 : min 2 ((c2 :: r2).length + 1) = 2 := by rw [List.length_cons]; omega
        rw [e2]
        rw [List.length_cons] at e0
        have e1 : muL (some (k, dep, s)) r2 = 2 * r2.length + 1 := rfl
        show outP rs g (liftP (some (k, dep, s))) (p + 1 + 1) r2 = outL rs (f + 1) (some (k, dep, s)) (p + 2) r2
        exact ih (muL (some (k, dep, s)) r2) (by omega) (f + 1) g (some (k, dep, s)) (p + 2) r2 (Nat.le_refl _) (by omega) (by omega) ⟨hk, hd⟩
    · rw [if_neg he]
      have hp := stepL_pos hr (t := c :: r) (List.cons_ne_nil _ _) hd
      generalize stepL ru (c :: r) dep = st at hp
      obtain ⟨w, dep'⟩ := st
      dsimp only at hp ⊢
      rw [List.length_cons] at hp
      have ld : ((c :: r).drop w).length = r.length + 1 - w := by rw [List.length_drop, List.length_cons]
      by_cases h0 : dep' = 0
      · rw [if_pos h0, if_pos h0]
        have e1 : muL none ((c :: r).drop w) = 2 * (r.length + 1 - w) := by show 2 * ((c :: r).drop w).length + 0 = _; rw [ld]; rfl
        refine congrArg _ ?_
        exact ih (muL none ((c :: r).drop w)) (by omega) f g none (p + w) _ (Nat.le_refl _) (by omega) (by omega) trivial
      · rw [if_neg h0, if_neg h0]
        have hw : 1 ≤ w ∧ w ≤ r.length + 1 := hp.resolve_right fun z => h0 (congrArg Prod.snd z)
        have e1 : muL (some (k, dep', s)) ((c :: r).drop w) = 2 * (r.length + 1 - w) + 1 := by show 2 * ((c :: r).drop w).length + 1 = _; rw [ld]
        exact ih (muL (some (k, dep', s)) ((c :: r).drop w)) (by omega) f g (some (k, dep', s)) (p + w) _ (Nat.le_refl _) (by omega) (by omega) ⟨hk, by omega⟩
/-! ### kinds -/
def kOf (rs : List Ru) (k : Nat) : Nat := match rs[k]? with | some r => r.k | none => 0
def kindsOf (rs : List Ru) (n : Nat) : Nat → List Pc → List Nat
  | at_, [] => List.replicate (n - at_) 99
  | at_, (k, s, e) :: r => List.replicate (s - at_) 99 ++ List.replicate (e - s) (kOf rs k) ++ kindsOf rs n e r
def kindP (rs : List Ru) : Nat → Option (Nat × Nat × Bool × Nat) → List Nat → List Nat
  | 0, _, _ => []
  | _ + 1, _, [] => []
  | f + 1, none, c :: r => match openL rs (c :: r) with
    | (none, _) => 99 :: kindP rs f none r
    | (some k, m) => List.replicate m (kOf rs k) ++ kindP rs f (some (k, 1, false, 0)) ((c :: r).drop m)
  | f + 1, some (k, dep, true, s), _ :: r => kOf rs k :: kindP rs f (some (k, dep, false, s)) r
  | f + 1, some (k, dep, false, s), c :: r => match rs[k]? with
    | none => []
    | some ru => if ru.e ≠ [] ∧ [c] = ru.e then kOf rs k :: kindP rs f (some (k, dep, true, s)) r
      else List.replicate (stepL ru (c :: r) dep).1 (kOf rs k) ++ (if (stepL ru (c :: r) dep).2 = 0 then kindP rs f none ((c :: r).drop (stepL ru (c :: r) dep).1)
      else kindP rs f (some (k, (stepL ru (c :: r) dep).2, false, s)) ((c :: r).drop (stepL ru (c :: r) dep).1))
def muP (m : Option (Nat × Nat × Bool × Nat)) (t : List Nat) : Nat := 2 * t.length + (match m with | none => 0 | some _ => 1)
theorem repl_split {a b c : Nat} (x : Nat) (h : a = b + c) : List.replicate a x = List.replicate b x ++ List.replicate c x := by rw [h, List.replicate_append_replicate]
/-- the signs' kinds, step by step, are those of the pieces -/
theorem kind_eq {rs : List Ru} (ok : ∀ r ∈ rs, RuOk r) {n : Nat} : ∀ (f p : Nat) (t : List Nat), p + t.length = n →
    (∀ q, q ≤ p → muP none t < f → kindsOf rs n q (outP rs f none p t) = List.replicate (p - q) 99 ++ kindP rs f none t) ∧
    (∀ k dep es s s' q, q ≤ s → s ≤ p → k < rs.length → 1 ≤ dep → 2 * t.length + 1 < f → kindsOf rs n q (outP rs f (some (k, dep, es, s)) p t) = List.replicate (s - q) 99 ++ (List.replicate (p - s) (kOf rs k) ++ kindP rs f (some (k, dep, es, s')) t)) := by
  intro f
  induction f with
  | zero => intro p t _; exact ⟨fun q _ h => absurd h (Nat.not_lt_zero _), fun _ _ _ _ _ _ _ _ _ _ h => absurd h (Nat.not_lt_zero _)⟩
  | succ f ih =>
  intro p t hpt
  cases t with
  | nil =>
    have hp : p = n := hpt
    subst hp
    refine ⟨fun q hq _ => ?_, fun k dep es s s' q hq hs _ _ _ => ?_⟩
    · show List.replicate (p - q) 99 = List.replicate (p - q) 99 ++ []
      rw [List.append_nil]
    · have e1 : outP rs (f + 1) (some (k, dep, es, s)) p [] = [(k, s, p)] := by cases es <;> rfl
      have e2 : kindP rs (f + 1) (some (k, dep, es, s')) [] = [] := by cases es <;> rfl
      rw [e1, e2]
      show List.replicate (s - q) 99 ++ List.replicate (p - s) (kOf rs k) ++ List.replicate (p - p) 99 = _
      rw [Nat.sub_self, List.append_assoc]; rfl
  | cons c r =>
    rw [List.length_cons] at hpt
    refine ⟨fun q hq hf => ?_, fun k dep es s s' q hq hs hk hd hf => ?_⟩
    · have e0 : muP none (c :: r) = 2 * (r.length + 1) := rfl
      have hp := openL_pos ok (t := c :: r) (List.cons_ne_nil _ _)
      unfold outP kindP
      cases ho : openL rs (c :: r) with
      | mk b w =>
        rw [ho] at hp
        cases b with
        | none =>
          dsimp only
          have e1 : muP none r = 2 * r.length := rfl
          rw [(ih (p + 1) r (by omega)).1 q (by omega) (by omega), repl_split 99 (show p + 1 - q = (p - q) + 1 by omega), List.append_assoc]
          rfl
        | some k =>
          dsimp only at hp ⊢
          rw [List.length_cons] at hp
          have ld : ((c :: r).drop w).length = r.length + 1 - w := by rw [List.length_drop, List.length_cons]
          rw [(ih (p + w) ((c :: r).drop w) (by omega)).2 k 1 false p 0 q hq (by omega) (hp.2.2 k rfl) (Nat.le_refl _) (by omega), show p + w - p = w by omega]
    · rw [List.length_cons] at hf
      cases es with
      | true =>
        show kindsOf rs n q (outP rs f (some (k, dep, false, s)) (p + 1) r) = _ ++ (_ ++ (kOf rs k :: kindP rs f (some (k, dep, false, s')) r))
        rw [(ih (p + 1) r (by omega)).2 k dep false s s' q hq (by omega) hk hd (by omega), repl_split (kOf rs k) (show p + 1 - s = (p - s) + 1 by omega), List.append_assoc]
        rfl
      | false =>
        unfold outP kindP
        rw [List.getElem?_eq_getElem hk]
        dsimp only
        have hr := ok rs[k] (List.getElem_mem hk)
        generalize rs[k] = ru at hr
        by_cases he : ru.e ≠ [] ∧ [c] = ru.e
        · rw [if_pos he, if_pos he, (ih (p + 1) r (by omega)).2 k dep true s s' q hq (by omega) hk hd (by omega), repl_split (kOf rs k) (show p + 1 - s = (p - s) + 1 by omega), List.append_assoc]
          rfl
        · rw [if_neg he, if_neg he]
          have hp := stepL_pos hr (t := c :: r) (List.cons_ne_nil _ _) hd
          generalize stepL ru (c :: r) dep = st at hp
          obtain ⟨w, dep'⟩ := st
          dsimp only at hp ⊢
          rw [List.length_cons] at hp
          have ld : ((c :: r).drop w).length = r.length + 1 - w := by rw [List.length_drop, List.length_cons]
          have hw : w ≤ r.length + 1 := hp.elim (fun z => z.2) fun z => by rw [(Prod.mk.inj z).1]; omega
          by_cases h0 : dep' = 0
          · rw [if_pos h0, if_pos h0]
            have e1 : muP none ((c :: r).drop w) = 2 * (r.length + 1 - w) := by show 2 * ((c :: r).drop w).length + 0 = _; rw [ld]; rfl
            show List.replicate (s - q) 99 ++ List.replicate (p + w - s) (kOf rs k) ++ kindsOf rs n (p + w) (outP rs f none (p + w) ((c :: r).drop w)) = _
            rw [(ih (p + w) _ (by omega)).1 (p + w) (Nat.le_refl _) (by omega), Nat.sub_self, repl_split (kOf rs k) (show p + w - s = (p - s) + w by omega), List.append_assoc, List.append_assoc]
            rfl
          · rw [if_neg h0, if_neg h0]
            have hw2 : 1 ≤ w := (hp.resolve_right fun z => h0 (Prod.mk.inj z).2).1
            rw [(ih (p + w) ((c :: r).drop w) (by omega)).2 k dep' false s s' q hq (by omega) hk (by omega) (by omega), repl_split (kOf rs k) (show p + w - s = (p - s) + w by omega), List.append_assoc]
end Vf

set_option maxRecDepth 100000
set_option maxHeartbeats 4000000
namespace Vf
open PySem PySem.Spec PyProof.Rows L2 SX
section
variable {P : Program} {w : World} {K : PySem.W.Frag} {mg : Str → Option Value} {base : Heap}
/-! ### one step of the reader -/
theorem from_nat (n k : Nat) : fromIndex n (k : Int) = k := by
  unfold fromIndex
  rw [if_neg (by omega)]
  omega
theorem sw3 {t m : List Nat} {k : Nat} (hk : k ≤ t.length) : Txt.startswith3 (S t) (S m) (k : Int) = decide (Sw m (t.drop k)) := by
  unfold Txt.startswith3
  rw [from_nat, PySem.StrLaws.subAt_eq, S_len, S_len]
  have e1 : (S t).cps.toList = t := rfl
  have e2 : (S m).cps.toList = m := rfl
  rw [e1, e2]
  by_cases h : Sw m (t.drop k)
  · have hl := sw_len h
    rw [decide_eq_true h]
    obtain ⟨r, e⟩ := h
    rw [e, List.take_left, beq_self_eq_true, Bool.and_true, decide_eq_true_eq]
    rw [List.length_drop] at hl
    omega
  · rw [decide_eq_false h]
    have : ((t.drop k).take m.length == m) = false := by
      refine beq_eq_false_iff_ne.mpr fun z => h ⟨(t.drop k).drop m.length, ?_⟩
      conv => lhs; rw [← List.take_append_drop m.length (t.drop k), z]
    rw [this, Bool.and_false]
/-- what the reader does behind the signs ahead, the whole text before it -/
def Best (ks : List (Str × Int × Int × Int)) (t : List Nat) : Option (Str × Int × Int × Int) → Prop
  | some k => k ∈ ks ∧ Sw (TL.tl k.1) t ∧ ∀ n ∈ ks, Sw (TL.tl n.1) t → n.1.length ≤ k.1.length
  | none => ∀ n ∈ ks, ¬ Sw (TL.tl n.1) t
theorem best_of {ks kys : List (Str × Int × Int × Int)} {t : List Nat} (hp : kys.Perm ks) (hs : kys.Pairwise fun p q => q.1.length ≤ p.1.length) : Best ks t (kys.find? fun k => decide (Sw (TL.tl k.1) t)) := by
  cases h : kys.find? fun k => decide (Sw (TL.tl k.1) t) with
  | none => exact fun n hn => by simpa using List.find?_eq_none.mp h n (hp.mem_iff.mpr hn)
  | some k =>
    obtain ⟨h1, h2, h3⟩ := first_some (len := fun m : Str × Int × Int × Int => m.1.length) hs h
    exact ⟨hp.mem_iff.mp h1, of_decide_eq_true h2, fun n hn z => h3 n (hp.mem_iff.mpr hn) (decide_eq_true z)⟩
def kindOf (fs : List Fd) (n : Nat) : Str := match fs[n]? with | some f => f.k | none => ""
/-- one step: from a way of reading, at the signs t, to another, w signs further, of a kind -/
def StepR (fs : List Fd) (m : Int × Int × Int) (t : List Nat) (m' : Int × Int × Int) (w : Nat) (kd : Str) : Prop :=
  (m = (-1, 0, 0) ∧ ((∃ k, Best (opL 0 fs) t (some k) ∧ m' = k.2 ∧ w = k.1.length ∧ ∃ n : Nat, k.2.1 = (n : Int) ∧ kd = kindOf fs n) ∨ (Best (opL 0 fs) t none ∧ m' = m ∧ w = 1 ∧ kd = "c"))) ∨
  ∃ (n d : Nat) (f : Fd), fs[n]? = some f ∧ kd = f.k ∧ 1 ≤ d ∧ d ≤ max f.nd 1 ∧
    ((m = ((n : Int), (d : Int), 1) ∧ m' = ((n : Int), (d : Int), 0) ∧ w = 1) ∨
     (m = ((n : Int), (d : Int), 0) ∧ S (t.take 1) = f.es ∧ m' = ((n : Int), (d : Int), 1) ∧ w = 1) ∨
     (m = ((n : Int), (d : Int), 0) ∧ S (t.take 1) ≠ f.es ∧ ((∃ k, Best (pmL f.op f.cl f.nd f.db n d) t (some k) ∧ m' = k.2 ∧ w = k.1.length) ∨
       (Best (pmL f.op f.cl f.nd f.db n d) t none ∧ ((t.take 1 = [10] ∧ f.ln = true ∧ m' = (-1, 0, 0) ∧ w = 0) ∨ (¬ (t.take 1 = [10] ∧ f.ln = true) ∧ m' = m ∧ w = 1))))))

end
end Vf

set_option maxRecDepth 100000
set_option maxHeartbeats 4000000
namespace Vf
open PySem PySem.Spec PyProof.Rows L2
/-- a method of a built-in value, called within a comprehension -/
theorem pe_bmK {X : Cx} {K : PySem.W.Frag} {T : String} {name : Str} {id : String} {o e : Expr} {es : List Expr} {to : TE} {t : TA} {r : V → List V → Hp → VK → Prop} {apos cpos : Pos} (hK : X.K = K) (pa : PlainAttrs T) (slot : Slot T name id) (hty : typeOf (.builtin id) = pure (.type "method_descriptor")) (hm : MtR X id r) (ho : PE X o to) (ha : PA X (e :: es) t)
    (hbase : attributeBase o name X.env (eval o X.env) = eval o X.env := by rfl)
    (hfew : ((backTo cpos (starEach (e :: es) X.env)).all (fun x => !x.1) && (backToKw cpos (keywordEach [] X.env)).all (fun x => x.1.isSome) && decide ((e :: es).length + ([] : List Keyword).length + (if ([] : List Keyword).isEmpty then 0 else 1) < 30)) = true := by rfl)
    (hline : (apos.endLine == cpos.line) = true := by rfl) (hs : starEach (e :: es) X.env = (false, eval e X.env) :: starEach es X.env := by rfl) (hplain : (backTo cpos (starEach es X.env)).any (·.1) = false := by rfl) :
    PE X (.Call (.Attribute o name apos) (e :: es) [] cpos) (tBM K T r to t) := by
  subst hK
  exact pe_bm pa slot hty hm ho ha hbase hfew hline hs hplain
end Vf

set_option maxRecDepth 100000
set_option maxHeartbeats 4000000
namespace Vf
open PySem PySem.Spec PyProof.Rows L2 SX
section
variable {P : Program} {w : World} {K : PySem.W.Frag} {mg : Str → Option Value} {base : Heap}
/-! ### whether a mark may begin at the end of what is there -/
def BegM (ks : List (Str × Int × Int × Int)) (t : List Nat) : Prop := ∃ k ∈ ks, t.length < k.1.length ∧ Sw t (TL.tl k.1)
instance (ks : List (Str × Int × Int × Int)) (t : List Nat) : Decidable (BegM ks t) := by unfold BegM; exact List.decidableBEx _ _
def sp_isBeg (P : Program) (w : World) (K : PySem.W.Frag) (CD : Addr) : Sp := fun vs H Q _ => ∃ (rd dd b p mb : Addr) (xs : List Ent) (ks : List (Str × Int × Int × Int)) (m : Int × Int × Int) (t : List Nat) (pl : Nat), vs = [.ref rd, .ref mb, .str (S t), .int (pl : Int)] ∧
  H rd = some (.ins CD dd [("parts", .ref b), ("_marks", .ref p)]) ∧ H p = some (DX P w p xs) ∧ EntsAt K H xs ∧ KeyAt K H xs m ks ∧ SqT K H mb [.int m.1, .int m.2.1, .int m.2.2] ∧ pl < t.length ∧ t.length ≤ 1000000 ∧ ks.length ≤ 50 ∧ (∀ k ∈ ks, k.1.length ≤ 200) ∧
  ∀ (H' : Hp), Same H H' → Q (.bl (decide (BegM ks (t.drop pl)))) H'
theorem ok_isBeg {CR CD CG : Addr} {f : Addr} {fd : FuncData} {q : Str} (me : Meth K CD "is_beginning" f) (F : C8.Fun K "is_beginning" q s_Reader_is_beginning f fd) (b : Binds K fd ["self", "mode", "text", "place"] []) (T : Tx K w mg) (A0 : Ca K CR CD CG) : C8.Met P w K mg base 1 CD "is_beginning" (sp_isBeg P w K CD) [] := by
  refine C8.met0 A0.iD.cl me F b sc_Reader_is_beginning (fun vs H Q E h => ?_) (fun cdv A outer s H vs Q E hr h => ?_)
  · obtain ⟨_, _, _, _, _, _, _, _, _, _, rfl, _⟩ := h; rfl
  have hu := hu_of hr
  refine ⟨_, (pss_cons (ps_set (i := 4) sc_Reader_is_beginning.nd rfl (Or.inl rfl) (pe_dgetYK rfl rfl rfl hu (pe_fld (pv 0) rfl) (pv 1) (fun _ _ => rfl)))
      (pss_cons (ps_set (i := 5) sc_Reader_is_beginning.nd rfl (Or.inr rfl) (pe_op op_sub (pe_callB call_len (by rfl) T.z_len PySem.boot_len (pa_cons (pv 2) pa_nil)) (pv 3)))
      (C8.pss_cut (ps_if (PW.pt (pw_or (pt_not (pt_truth (pv 4) (by intro _; rfl))) (pw_or1 (pt_cmpR op_ge (pv 5) (pe_callB call_len (by rfl) T.z_len PySem.boot_len (pa_cons (pe_ix (ix_tupK (K := K) rfl) (pe_ix (ix_tupK (K := K) rfl) (pv 4) pe_int (fun _ _ => rfl)) pe_int (fun _ _ => rfl)) pa_nil)) (nomark _)))))
      (pss_one (ps_ret pe_bl))
      pss_nil)
      (pss_cons (ps_set (i := 6) sc_Reader_is_beginning.nd rfl (Or.inr rfl) (pe_slice C8.sl_txt (pv 2) (po_some (pv 3)) po_none))
      (pss_one (ps_ret (pe_callB (cr_any rfl) (by rfl) T.z_any (by decide +kernel) (pa_cons (pe_lc (own := [("mark", 7), ("_", 8)]) (g := (gTup K 2 (gCons (gName 7) (gCons (gName 8) gNil)))) (tt := tYes) rfl sc_Reader_is_beginning.nd (pi_tup (pv 4)) (blkOk_by (N := N_Reader_is_beginning) (sc := C8.fnScope s_Reader_is_beginning) (by decide +kernel)) (fun _ _ _ _ _ => pg_tup (by rfl) (pgs_cons (pg_name (i := 7) sc_Reader_is_beginning.nd rfl (Or.inl rfl)) (pgs_cons (pg_name (i := 8) sc_Reader_is_beginning.nd rfl (Or.inl rfl)) pgs_nil))) (fun _ _ _ _ _ => pts_nil) (fun _ _ _ _ _ => (pe_and (pe_cmpR op_gt (pe_callB (call_lenK (K := K) rfl) (by rfl) T.z_len PySem.boot_len (pa_cons (pv 7) pa_nil)) (pv 5) (nomark _)) (pe_one (pe_bmK (K := K) rfl PySem.F.plainAttrs_str PySem.F.slot_str_startswith PySem.F.type_str_startswith mt_startswith (pv 7) (pa_cons (pv 6) pa_nil)))))) pa_nil)))))))), ?_⟩
  obtain ⟨rd, dd, b, p, mb, xs, ks, m, t, pl, rfl, hrd, hp, hxs, hk, hmb, hpl, htl, hkl, kbl, q⟩ := h
  have clD := A0.iD.cl
  have tlt : (S t).length = t.length := S_len t
  obtain ⟨b2, bb, ys, kys, hat, hbb, kp, kso, km⟩ := hk
  refine ⟨_, rfl, rd, CD, dd, _, _, rfl, hrd, clD, A0.d2, rfl, _, rfl, p, xs, keyOf m, mb, b2, .ref bb, .ref bb, rfl, hp, hxs, rfl, hmb, hat, rfl, ?_⟩
  have kl : ys.length = kys.length := km.1
  have kl2 : kys.length = ks.length := kp.length_eq
  let σ9 : L2.St := [some (.ref rd), some (.ref mb), some (.str (S t)), some (.int (pl : Int)), some (.ref bb), some (.int ((t.length : Int) - (pl : Int))), none, none, none]
  refine ⟨_, rfl, _, t.length, rfl, ⟨by rw [tlt]; exact szB (by omega), tlt.symm⟩, _, rfl, _, _, rfl, rfl, fun σ' H' => σ' = σ9 ∧ H' = H ∧ ks ≠ [], ?_, ?_⟩
  · rcases hys : ys with _ | ⟨y0, yr⟩
    · have hks : ks = [] := List.eq_nil_of_length_eq_zero (by rw [← kl2, ← kl, hys]; rfl)
      refine ⟨_, rfl, false, .inr (.inl ⟨ys, SqT.of hbb, by rw [hys]; rfl⟩), ifT ?_⟩
      have := q H (fun _ _ z => z)
      rw [decide_eq_false (by rw [hks]; rintro ⟨k, hk, _⟩; cases hk)] at this
      exact this
    · rcases hkys : kys with _ | ⟨k0, kr⟩
      · rw [hkys, hys] at kl; cases kl
      · have e0 : ys[0]? = some y0 := by rw [hys]; rfl
        obtain ⟨ta, u, rfl, hta, hmo⟩ := km.2 0 y0 k0 e0 (by rw [hkys]; rfl)
        refine ⟨_, rfl, true, .inr (.inl ⟨ys, SqT.of hbb, by rw [hys]; rfl⟩), ifF ?_⟩
        have ea : atI ys 0 = some (.ref ta) := atI_nat (j := 0) e0
        refine ⟨_, rfl, _, rfl, bb, ys, 0, _, rfl, rfl, SqT.of hbb, ea, ta, _, 0, _, rfl, rfl, SqT.of hta, rfl, _, k0.1.length, rfl, ⟨?_, rfl⟩, _, _, rfl, rfl, _, rfl, ?_⟩
        · have := kbl k0 (kp.mem_iff.mp (by rw [hkys]; exact .head _))
          exact szB (by omega)
        · by_cases hge : k0.1.length ≤ t.length - pl
          · refine ify (decide_eq_true (by omega)) ?_
            have := q H (fun _ _ z => z)
            rw [decide_eq_false (by
              rintro ⟨k, hk, h1, _⟩
              have h2 : k ∈ kys := kp.mem_iff.mpr hk
              rw [List.length_drop] at h1
              rw [hkys] at h2 kso
              rcases List.mem_cons.mp h2 with rfl | h2
              · omega
              · have := (List.pairwise_cons.mp kso).1 k h2; omega)] at this
            exact this
          · refine ifn (decide_eq_false (by omega)) ⟨rfl, rfl, fun z => ?_⟩
            rw [z, hkys] at kl2
            cases kl2
  · rintro σ1 H1 ⟨rfl, rfl, hne⟩
    have esl : Txt.slice (S t) (some (pl : Int)) none = S (t.drop pl) := slice_from (by omega)
    refine ⟨_, rfl, _, rfl, _, rfl, _, rfl, szB (by rw [tlt]; omega), ?_⟩
    rw [esl]
    refine ⟨_, rfl, bb, rfl, ⟨_, SqT.of hbb⟩, fun D hD => ?_⟩
    refine lc_tup (K := K) (a := bb) (xs := ys) (fun i H' => H' D = some (.lst ((kys.take i).map fun k => V.bl (decide ((t.drop pl).length < k.1.length ∧ Sw (t.drop pl) (TL.tl k.1))))) ∧ Same H1 H') ⟨upd_same, same1 hD _⟩ (fun i H' _ z => SqT.of (z.2 _ _ hbb)) ?_ ?_
    · rintro i x H4 hx ⟨g1, g2⟩
      have hil : i < kys.length := by rw [← kl]; exact (List.getElem?_eq_some_iff.mp hx).1
      have hk : kys[i]? = some kys[i] := List.getElem?_eq_getElem hil
      have hkb := kbl _ (kp.mem_iff.mp (List.getElem_mem hil))
      generalize kys[i] = k at hk hkb
      obtain ⟨t', u, rfl, ht', mk', rfl, hmk'⟩ := km.2 i x k hx hk
      have esw : Txt.startswith k.1 (S (t.drop pl)) = decide (Sw (t.drop pl) (TL.tl k.1)) := by
        have := sw3 (t := TL.tl k.1) (m := t.drop pl) (k := 0) (Nat.zero_le _)
        rw [List.drop_zero, S_tl] at this
        rw [← this]
        rfl
      have put : ∀ (b : Bool) (H5 : Hp), H5 D = some (.lst ((kys.take i).map fun k => V.bl (decide ((t.drop pl).length < k.1.length ∧ Sw (t.drop pl) (TL.tl k.1))))) → b = decide ((t.drop pl).length < k.1.length ∧ Sw (t.drop pl) (TL.tl k.1)) → (kys.take i).map (fun k => V.bl (decide ((t.drop pl).length < k.1.length ∧ Sw (t.drop pl) (TL.tl k.1)))) ++ [V.bl b] = (kys.take (i + 1)).map (fun k => V.bl (decide ((t.drop pl).length < k.1.length ∧ Sw (t.drop pl) (TL.tl k.1)))) := fun b H5 _ e => by
        rw [List.take_add_one, hk, e, List.map_append]; rfl
      refine ⟨t', _, rfl, SqT.of (g2 _ _ ht'), rfl, _, _, rfl, _, _, rfl, rfl, ?_⟩
      dsimp only [tYes]
      rw [if_pos rfl]
      refine ⟨rfl, _, rfl, _, k.1.length, rfl, ⟨szB (by omega), rfl⟩, _, rfl, _, _, rfl, rfl, _, rfl, ?_⟩
      have ll : (t.drop pl).length = t.length - pl := List.length_drop ..
      by_cases c : (t.drop pl).length < k.1.length
      · refine ify (decide_eq_true (by omega)) ⟨_, rfl, rfl, _, rfl, _, _, rfl, rfl, ?_⟩
        rw [esw]
        refine ⟨_, g1, szL (by rw [List.length_map, List.length_take]; omega), ?_, fun c' o y => by rw [upd_ne (ne_of_none y hD)]; exact g2 _ _ y⟩
        rw [upd_same]
        exact congrArg (fun z => some (HO.lst z)) (put _ _ g1 (decide_eq_decide.mpr ⟨fun z => ⟨c, z⟩, fun z => z.2⟩))
      · refine ifn (decide_eq_false (by omega)) ⟨_, g1, szL (by rw [List.length_map, List.length_take]; omega), ?_, fun c' o y => by rw [upd_ne (ne_of_none y hD)]; exact g2 _ _ y⟩
        rw [upd_same]
        exact congrArg (fun z => some (HO.lst z)) (put _ _ g1 (decide_eq_false fun z => c z.1).symm)
    · rintro H4 ⟨g1, g2⟩
      rw [List.take_of_length_le (by omega)] at g1
      refine ⟨D, kys.map fun k => decide ((t.drop pl).length < k.1.length ∧ Sw (t.drop pl) (TL.tl k.1)), rfl, SqL.of (by rw [g1, List.map_map]; rfl), ?_⟩
      have := q H4 g2
      have e : (kys.map fun k => decide ((t.drop pl).length < k.1.length ∧ Sw (t.drop pl) (TL.tl k.1))).any id = decide (BegM ks (t.drop pl)) := by
        rw [List.any_map, Bool.eq_iff_iff, List.any_eq_true, decide_eq_true_eq]
        constructor
        · rintro ⟨k, hk, z⟩
          exact ⟨k, kp.mem_iff.mp hk, of_decide_eq_true z⟩
        · rintro ⟨k, hk, z⟩
          exact ⟨k, kp.mem_iff.mpr hk, decide_eq_true z⟩
      rw [e]
      exact this

end
end Vf

set_option maxRecDepth 100000
set_option maxHeartbeats 4000000
namespace Vf
open PySem PySem.Spec PyProof.Rows L2 SX
section
variable {P : Program} {w : World} {K : PySem.W.Frag} {mg : Str → Option Value} {base : Heap}
theorem opL_mem : ∀ {fs : List Fd} {k : Nat} {m : Str × Int × Int × Int}, m ∈ opL k fs → ∃ n f, fs[n]? = some f ∧ m = (f.op, ((k + n : Nat) : Int), 1, 0)
  | [], _, _, h => by cases h
  | f :: fs, k, m, h => by
    rcases List.mem_cons.mp h with rfl | h
    · exact ⟨0, f, rfl, rfl⟩
    · obtain ⟨n, g, h1, rfl⟩ := opL_mem h
      exact ⟨n + 1, g, h1, by rw [show k + 1 + n = k + (n + 1) by omega]⟩
theorem find_first {α : Type} {p : α → Bool} : ∀ {l : List α} {i : Nat} {x : α}, (∀ j y, j < i → l[j]? = some y → p y = false) → l[i]? = some x → p x = true → l.find? p = some x
  | [], _, _, _, h, _ => by cases h
  | y :: l, 0, x, _, h, hp => by cases h; rw [List.find?_cons_of_pos hp]
  | y :: l, i + 1, x, h0, h, hp => by
    rw [List.find?_cons_of_neg (by rw [h0 0 y (by omega) rfl]; exact Bool.false_ne_true)]
    exact find_first (fun j z hj hz => h0 (j + 1) z (by omega) hz) h hp
/-- no more can be told before more is there -/
def BegAt (fs : List Fd) (m : Int × Int × Int) (t : List Nat) : Prop := (m = (-1, 0, 0) ∧ BegM (opL 0 fs) t) ∨ ∃ (n d : Nat) (f : Fd), fs[n]? = some f ∧ m = ((n : Int), (d : Int), 0) ∧ S (t.take 1) ≠ f.es ∧ BegM (pmL f.op f.cl f.nd f.db n d) t
def FdS (f : Fd) : Prop := f.es.length ≤ 1 ∧ f.nd ≤ 4 ∧ f.op.length ≤ 50 ∧ f.cl.length ≤ 50
def sp_passed (P : Program) (w : World) (K : PySem.W.Frag) (CR CD : Addr) : Sp := fun vs H Q _ => ∃ (rd dd b p mb : Addr) (rs : List V) (fs : List Fd) (m : Int × Int × Int) (t : List Nat) (pl : Nat) (en : Bool), vs = [.ref rd, .ref mb, .str (S t), .int (pl : Int), .bl en] ∧
  H rd = some (.ins CD dd [("parts", .ref b), ("_marks", .ref p)]) ∧ H b = some (.tup rs) ∧ FdsAt CR H rs fs ∧ MarksMap P w K H p fs ∧ SqT K H mb [.int m.1, .int m.2.1, .int m.2.2] ∧ pl < t.length ∧ t.length ≤ 1000000 ∧ (∀ f ∈ fs, FdS f) ∧ fs.length ≤ 50 ∧
  (m = (-1, 0, 0) ∨ ∃ (n d : Nat) (e : Bool), n < fs.length ∧ 1 ≤ d ∧ (∀ f, fs[n]? = some f → d ≤ max f.nd 1) ∧ m = ((n : Int), (d : Int), if e = true then 1 else 0)) ∧
  (∀ (H' : Hp) (r mb' : Addr) (m' : Int × Int × Int) (w9 : Nat) (kd : Str), Same H H' → H' r = some (.tup [.ref mb', .int ((pl + w9 : Nat) : Int), .str kd]) → SqT K H' mb' [.int m'.1, .int m'.2.1, .int m'.2.2] → StepR fs m (t.drop pl) m' w9 kd → (en = true ∨ ¬ BegAt fs m (t.drop pl)) → Q (.ref r) H') ∧
  (∀ H' : Hp, Same H H' → en = false → BegAt fs m (t.drop pl) → Q .non H')
theorem opL_lenG : ∀ {fs : List Fd} {k : Nat}, (opL k fs).length = fs.length
  | [], _ => rfl
  | _ :: fs, k => congrArg (· + 1) (opL_lenG (fs := fs) (k := k + 1))
theorem opL_short {fs : List Fd} (h : ∀ f ∈ fs, FdS f) : ∀ k ∈ opL 0 fs, k.1.length ≤ 200 := fun k hk => by
  obtain ⟨n, f, hf, rfl⟩ := opL_mem hk
  have := (h f (List.mem_of_getElem? hf)).2.2.1
  show f.op.length ≤ 200
  omega
theorem pmL_lenG {op cl : Str} {nd : Nat} {db : Bool} {n d : Nat} : (pmL op cl nd db n d).length ≤ 50 := by
  have e1 : ∀ {α : Type} {c : Prop} [Decidable c] (x : α), (if c then [x] else []).length ≤ 1 := fun {α c} _ x => by
    by_cases h : c
    · rw [if_pos h]; exact Nat.le_refl _
    · rw [if_neg h]; exact Nat.zero_le _
  unfold pmL
  rw [List.length_append, List.length_append]
  have a := e1 (c := cl ≠ "") (cl, if 1 < d then ((n : Int), (d : Int) - 1, (0 : Int)) else ((-1 : Int), (0 : Int), (0 : Int)))
  have b := e1 (c := d < nd) (op, ((n : Int), (d : Int) + 1, (0 : Int)))
  have c := e1 (c := db = true) (S (repL 2 (TL.tl cl)), ((n : Int), (d : Int), (0 : Int)))
  omega
theorem pmL_short {f : Fd} (h : FdS f) {n d : Nat} : ∀ k ∈ pmL f.op f.cl f.nd f.db n d, k.1.length ≤ 200 := fun k hk => by
  have := h.2.2
  unfold pmL at hk
  rcases List.mem_append.mp hk with z | z
  · split at z
    · rw [List.mem_singleton.mp z]; show f.cl.length ≤ 200; omega
    · cases z
  · rcases List.mem_append.mp z with z | z
    · split at z
      · rw [List.mem_singleton.mp z]; show f.op.length ≤ 200; omega
      · cases z
    · split at z
      · rw [List.mem_singleton.mp z]
        show (S (repL 2 (TL.tl f.cl))).length ≤ 200
        rw [S_len, rep_len, ← TL.len_tl]; omega
      · cases z
theorem ok_passed {CR CD CG : Addr} {f : Addr} {fd : FuncData} {q : Str} (me : Meth K CD "passed" f) (F : C8.Fun K "passed" q s_Reader_passed f fd) (b : Binds K fd ["self", "mode", "text", "place", "ended"] []) (T : Tx K w mg) (A0 : Ca K CR CD CG) (C_Reader_is_beginning : C8.Met P w K mg base 1 CD "is_beginning" (sp_isBeg P w K CD) []) : C8.Met P w K mg base 2 CD "passed" (sp_passed P w K CR CD) [] := by
  refine C8.met0 A0.iD.cl me F b sc_Reader_passed (fun vs H Q E h => ?_) (fun cdv A outer s H vs Q E hr h => ?_)
  · obtain ⟨_, _, _, _, _, _, _, _, _, _, _, rfl, _⟩ := h; rfl
  have hu := hu_of hr
  refine ⟨_, (pss_cons (ps_asg (pv 1) (pg_tup (by rfl) (pgs_cons (pg_name (i := 5) sc_Reader_passed.nd rfl (Or.inl rfl)) (pgs_cons (pg_name (i := 6) sc_Reader_passed.nd rfl (Or.inl rfl)) (pgs_cons (pg_name (i := 7) sc_Reader_passed.nd rfl (Or.inl rfl)) pgs_nil)))))
      (pss_cons (ps_if (pt_truth (pv 7) (by intro _; rfl))
      (pss_one (ps_ret (pe_tup (pa_cons (pe_tup (pa_cons (pv 5) (pa_cons (pv 6) (pa_cons pe_int pa_nil)))) (pa_cons (pe_op op_add (pv 3) pe_int) (pa_cons (pe_fld (pe_ix (ix_tupK (K := K) rfl) (pe_fld (pv 0) rfl) (pv 5) (fun _ _ => rfl)) rfl) pa_nil))))))
      pss_nil)
      (pss_cons (ps_set (i := 8) sc_Reader_passed.nd rfl (Or.inl rfl) (pe_ifExp (pt_cmpR op_ge (pv 5) pe_int (nomark _)) (pe_fld (pe_ix (ix_tupK (K := K) rfl) (pe_fld (pv 0) rfl) (pv 5) (fun _ _ => rfl)) rfl) pe_str))
      (C8.pss_cut (ps_if (PW.pt (pw_and (pt_cmpR op_ge (pv 5) pe_int (nomark _)) (pw_and1 (pt_cmpR op_eq (pe_ix ix_str (pv 2) (pv 3) (fun _ _ => rfl)) (pe_fld (pe_ix (ix_tupK (K := K) rfl) (pe_fld (pv 0) rfl) (pv 5) (fun _ _ => rfl)) rfl) (nomark _)))))
      (pss_one (ps_ret (pe_tup (pa_cons (pe_tup (pa_cons (pv 5) (pa_cons (pv 6) (pa_cons pe_int pa_nil)))) (pa_cons (pe_op op_add (pv 3) pe_int) (pa_cons (pv 8) pa_nil))))))
      pss_nil)
      (C8.pss_cut (ps_if (PW.pt (pw_and (pt_not (pt_val (pv 4))) (pw_and1 (pt_val (C8.pe_mt C_Reader_is_beginning hr (by decide) (pv 0) (pa_cons (pv 1) (pa_cons (pv 2) (pa_cons (pv 3) pa_nil))))))))
      (pss_one (ps_ret pe_non))
      pss_nil)
      (pss_cons (ps_for PassesOwn.never rfl (pi_tup (pe_dgetYK rfl rfl rfl hu (pe_fld (pv 0) rfl) (pv 1) (fun _ _ => rfl))) (pg_tup rfl (pgs_cons (pg_name (i := 9) sc_Reader_passed.nd rfl (Or.inl rfl)) (pgs_cons (pg_name (i := 10) sc_Reader_passed.nd rfl (Or.inl rfl)) pgs_nil)))
      (pss_one (ps_if (pt_val (pe_bm PySem.F.plainAttrs_str PySem.F.slot_str_startswith PySem.F.type_str_startswith mt_startswith3 (pv 2) (pa_cons (pv 9) (pa_cons (pv 3) pa_nil))))
      (pss_one (ps_ret (pe_tup (pa_cons (pv 10) (pa_cons (pe_op op_add (pv 3) (pe_callB call_len (by rfl) T.z_len PySem.boot_len (pa_cons (pv 9) pa_nil))) (pa_cons (pe_ifExp (pt_cmpR op_ge (pv 5) pe_int (nomark _)) (pv 8) (pe_fld (pe_ix (ix_tupK (K := K) rfl) (pe_fld (pv 0) rfl) (pe_ix (ix_tupK (K := K) rfl) (pv 10) pe_int (fun _ _ => rfl)) (fun _ _ => rfl)) rfl)) pa_nil))))))
      pss_nil)))
      (C8.pss_cut (ps_if (PW.pt (pw_and (pt_cmpR op_ge (pv 5) pe_int (nomark _)) (pw_and (pt_cmpR op_eq (pe_ix ix_str (pv 2) (pv 3) (fun _ _ => rfl)) pe_str (nomark _)) (pw_and1 (pt_val (pe_fld (pe_ix (ix_tupK (K := K) rfl) (pe_fld (pv 0) rfl) (pv 5) (fun _ _ => rfl)) rfl))))))
      (pss_one (ps_ret (pe_tup (pa_cons (C8.pe_gc rfl (Classical.choose_spec T.g_CODE).1) (pa_cons (pv 3) (pa_cons (pv 8) pa_nil))))))
      pss_nil)
      (pss_one (ps_ret (pe_tup (pa_cons (pv 1) (pa_cons (pe_op op_add (pv 3) pe_int) (pa_cons (pv 8) pa_nil))))))))))))), ?_⟩
  obtain ⟨rd, dd, b, p, mb, rs, fs, m, t, pl, en, rfl, hrd, hb, hfd, hmm, hmb, hpl, htl, hes, hfl, hm, q, qn⟩ := h
  have clD := A0.iD.cl
  have clR := A0.iR.cl
  have gC := (Classical.choose_spec T.g_CODE).2
  obtain ⟨xs, hp, hxs, hcode, hmk⟩ := hmm
  have tlt : (S t).length = t.length := S_len t
  rcases hm with rfl | ⟨n, d, e, hn, hd1, hd2, rfl⟩
  · -- in the code
    refine ⟨_, rfl, mb, _, rfl, hmb, rfl, _, _, rfl, _, _, rfl, _, _, rfl, rfl, ?_⟩
    refine ⟨_, rfl, false, ?_, ?_⟩
    · rfl
    refine ifF ?_
    refine ⟨_, rfl, _, _, rfl, rfl, _, rfl, ?_⟩
    refine ifn (by decide) ?_
    obtain ⟨b2, bb, ys, kys, hat, hbb, kp, ks, km⟩ := hcode
    refine ⟨fun σ' H' => σ' = [some (.ref rd), some (.ref mb), some (.str (S t)), some (.int (pl : Int)), some (.bl en), some (.int (-1)), some (.int 0), some (.int 0), some (.str "c"), none, none] ∧ H' = H, ⟨_, rfl, _, _, rfl, rfl, _, rfl, ifn (by decide) (ifF ⟨rfl, rfl⟩)⟩, ?_⟩
    rintro σ1 H1 ⟨rfl, rfl⟩
    refine ⟨fun σ' H' => σ' = [some (.ref rd), some (.ref mb), some (.str (S t)), some (.int (pl : Int)), some (.bl en), some (.int (-1)), some (.int 0), some (.int 0), some (.str "c"), none, none] ∧ Same H1 H' ∧ (en = true ∨ ¬ BegM (opL 0 fs) (t.drop pl)), ?_, ?_⟩
    · refine ⟨_, rfl, _, rfl, ?_⟩
      cases en with
      | true => exact ifF ⟨rfl, fun _ _ z => z, .inl rfl⟩
      | false =>
        refine ifT ⟨_, rfl, rd, dd, _, rfl, hrd, rfl, _, rfl, _, rfl, _, rfl, rd, dd, b, p, mb, xs, opL 0 fs, (-1, 0, 0), t, pl, rfl, hrd, hp, hxs, ⟨b2, bb, ys, kys, hat, hbb, kp, ks, km⟩, hmb, hpl, htl, by rw [opL_lenG]; exact hfl, opL_short hes, fun H9 s9 => ⟨_, rfl, ?_⟩⟩
        by_cases hbg : BegM (opL 0 fs) (t.drop pl)
        · exact ify (decide_eq_true hbg) (qn H9 s9 rfl (.inl ⟨rfl, hbg⟩))
        · exact ifn (decide_eq_false hbg) ⟨rfl, s9, .inr hbg⟩
    rintro σ1 H1' ⟨rfl, s9, hnb⟩
    have hend : en = true ∨ ¬ BegAt fs (-1, 0, 0) (t.drop pl) := hnb.imp id fun z y => y.elim (fun y => z y.2) fun ⟨n, d, f, _, y, _⟩ => by have : (-1 : Int) = (n : Int) := congrArg Prod.fst y; omega
    replace hrd := s9 _ _ hrd
    replace hp := s9 _ _ hp
    replace hxs := hxs.ext (extN_same s9)
    replace hmb := sqT_same s9 hmb
    replace hb := s9 _ _ hb
    replace hfd : FdsAt CR H1' rs fs := hfd.keep fun c dx f z => s9 _ _ z
    replace hbb := s9 _ _ hbb
    replace km := km.imp fun v k z => z.same s9
    replace q := fun (H' : Hp) (r mb' : Addr) (m' : Int × Int × Int) (w9 : Nat) (kd : Str) (z : Same H1' H') => q H' r mb' m' w9 kd (fun c o y => z _ _ (s9 _ _ y))
    clear hmk s9
    revert hrd hp hxs hmb hb hfd hbb km q
    generalize H1' = H1
    intro hrd hp hxs hmb hb hfd hbb km q
    refine ⟨_, rfl, rd, CD, dd, _, _, rfl, hrd, clD, A0.d2, rfl, _, rfl, p, xs, keyOf (-1, 0, 0), mb, b2, .ref bb, .ref bb, rfl, hp, hxs, rfl, hmb, hat, rfl, bb, rfl, ⟨_, SqT.of hbb⟩, ?_⟩
    refine for_it (walk_tup (K := K) (a := bb) (xs := ys)) (fun i σ' H' => ∃ v9 v10 : Option V, σ' = [some (.ref rd), some (.ref mb), some (.str (S t)), some (.int (pl : Int)), some (.bl en), some (.int (-1)), some (.int 0), some (.int 0), some (.str "c"), v9, v10] ∧ H' = H1 ∧ ∀ j k, j < i → kys[j]? = some k → decide (Sw (TL.tl k.1) (t.drop pl)) = false)
      ⟨none, none, rfl, rfl, fun j k hj _ => absurd hj (Nat.not_lt_zero _)⟩ (fun i σ' H' _ z => by obtain ⟨_, _, _, rfl, _⟩ := z; exact SqT.of hbb) ?_ ?_
    · rintro i v σ' H2 H3 hi ⟨v9, v10, rfl, rfl, hno⟩ ⟨rfl, hv⟩
      have hil : i < kys.length := by rw [← km.1]; exact (List.getElem?_eq_some_iff.mp hv).1
      have hk : kys[i]? = some kys[i] := List.getElem?_eq_getElem hil
      generalize kys[i] = k at hk
      obtain ⟨t', u, rfl, ht', mk', rfl, hmk'⟩ := km.2 i v k hv hk
      have kS : k.1 = S (TL.tl k.1) := (S_tl k.1).symm
      have esw : Txt.startswith3 (S t) k.1 (pl : Int) = decide (Sw (TL.tl k.1) (t.drop pl)) := by
        conv => lhs; rw [kS]
        exact sw3 (by omega)
      refine ⟨t', _, rfl, SqT.of ht', rfl, _, _, rfl, _, _, rfl, rfl, ?_⟩
      refine ⟨_, rfl, rfl, _, rfl, _, rfl, _, _, _, rfl, rfl, _, rfl, ?_⟩
      rw [esw]
      by_cases hsw : Sw (TL.tl k.1) (t.drop pl)
      · refine ify (decide_eq_true hsw) ?_
        have hfd9 := best_of (t := t.drop pl) kp ks
        rw [find_first hno hk (decide_eq_true hsw)] at hfd9
        obtain ⟨n, f9, hf9, rfl⟩ := opL_mem hfd9.1
        have hn2 : n < rs.length := by rw [hfd.1]; exact (List.getElem?_eq_some_iff.mp hf9).1
        have hr9 : rs[n]? = some rs[n] := List.getElem?_eq_getElem hn2
        obtain ⟨a9, dx9, er9, g9⟩ := hfd.2 n _ f9 hr9 hf9
        rw [er9] at hr9
        have hat9 : atI rs (((0 + n : Nat)) : Int) = some (.ref a9) := atI_nat (by rw [Nat.zero_add]; exact hr9)
        have hop : f9.op.length ≤ 1000000 := by
          have hsw9 : Sw (TL.tl f9.op) (t.drop pl) := hsw
          have := sw_len hsw9
          rw [← TL.len_tl, List.length_drop] at this
          omega
        refine ⟨_, rfl, _, rfl, _, rfl, _, f9.op.length, rfl, ⟨szB hop, rfl⟩, _, _, rfl, rfl, _, rfl, _, _, rfl, rfl, _, rfl, ?_⟩
        refine ifn (by decide) ⟨_, rfl, rd, CD, dd, _, _, rfl, hrd, clD, A0.d1, rfl, _, rfl, mk', _, 0, _, rfl, rfl, hmk', rfl, b, rs, _, _, rfl, rfl, SqT.of hb, hat9, a9, CR, dx9, _, _, rfl, g9, clR, A0.r1, rfl, sz_3, fun L hL => ?_⟩
        refine q _ L mk' (((0 + n : Nat) : Int), 1, 0) f9.op.length f9.k (same1 hL _) ?_ (sqT_same (same1 hL _) hmk') (.inl ⟨rfl, .inl ⟨_, hfd9, rfl, rfl, n, by rw [Nat.zero_add], ?_⟩⟩) hend
        · exact upd_same.trans (congrArg (fun z : Int => some (HO.tup [V.ref mk', V.int z, V.str f9.k])) (show (pl : Int) + (f9.op.length : Int) = ((pl + f9.op.length : Nat) : Int) by omega))
        · unfold kindOf; rw [hf9]
      · refine ifn (decide_eq_false hsw) ⟨_, _, rfl, rfl, fun j k' hj hk' => ?_⟩
        rcases Nat.lt_or_ge j i with z | z
        · exact hno j k' z hk'
        · have : j = i := by omega
          subst this
          rw [hk] at hk'; cases hk'
          exact decide_eq_false hsw
    · rintro σ' H2 ⟨v9, v10, rfl, rfl, hno⟩
      rw [km.1] at hno
      have hbest := best_of (t := t.drop pl) kp ks
      have hfn : kys.find? (fun k => decide (Sw (TL.tl k.1) (t.drop pl))) = none := List.find?_eq_none.mpr fun k hk => by
        obtain ⟨j, hj, rfl⟩ := List.mem_iff_getElem.mp hk
        rw [hno j _ hj (List.getElem?_eq_getElem hj)]
        exact Bool.false_ne_true
      rw [hfn] at hbest
      refine ⟨fun σ' H' => σ' = [some (.ref rd), some (.ref mb), some (.str (S t)), some (.int (pl : Int)), some (.bl en), some (.int (-1)), some (.int 0), some (.int 0), some (.str "c"), v9, v10] ∧ H' = H2, ⟨_, rfl, _, _, rfl, rfl, _, rfl, ifn (by decide) (ifF ⟨rfl, rfl⟩)⟩, ?_⟩
      rintro σ1 H1 ⟨rfl, rfl⟩
      refine ⟨_, rfl, _, rfl, _, _, rfl, rfl, _, rfl, sz_3, fun L hL => ?_⟩
      refine q _ L mb (-1, 0, 0) 1 "c" (same1 hL _) ?_ (sqT_same (same1 hL _) hmb) (.inl ⟨rfl, .inr ⟨hbest, rfl, rfl, rfl⟩⟩) hend
      rw [upd_same]
      rfl
  · -- in a piece
    have hf : fs[n]? = some fs[n] := List.getElem?_eq_getElem hn
    have hd3 := hd2 _ hf
    have hFS := hes fs[n] (List.getElem_mem hn)
    generalize fs[n] = f9 at hf hd3 hFS
    obtain ⟨he1, hnd, hop9, hcl9⟩ := id hFS
    have hn2 : n < rs.length := by rw [hfd.1]; exact hn
    have hr9 : rs[n]? = some rs[n] := List.getElem?_eq_getElem hn2
    obtain ⟨a9, dx9, er9, g9⟩ := hfd.2 n _ f9 hr9 hf
    rw [er9] at hr9
    have hat9 : atI rs (n : Int) = some (.ref a9) := atI_nat hr9
    have hct : t[pl]? = some t[pl] := List.getElem?_eq_getElem hpl
    have edrop : t.drop pl = t[pl] :: t.drop (pl + 1) := List.drop_eq_getElem_cons hpl
    generalize t[pl] = c9 at hct edrop
    have etake : (t.drop pl).take 1 = [c9] := by rw [edrop]; rfl
    have hatc : atI (S t).cps.toList (pl : Int) = some c9 := atI_nat hct
    have wpos : ∀ w9 : Nat, (pl : Int) + (w9 : Int) = ((pl + w9 : Nat) : Int) := fun w9 => by omega
    cases e with
    | true =>
      refine ⟨_, rfl, mb, _, rfl, hmb, rfl, _, _, rfl, _, _, rfl, _, _, rfl, rfl, ?_⟩
      refine ⟨_, rfl, true, rfl, ifT ?_⟩
      refine ⟨_, rfl, _, rfl, sz_3, fun L1 hL1 => ?_⟩
      have s1 := same1 hL1 (.tup [.int (n : Int), .int (d : Int), .int 0])
      refine ⟨_, rfl, _, _, rfl, rfl, _, rfl, rd, CD, dd, _, _, rfl, s1 _ _ hrd, clD, A0.d1, rfl, _, rfl, b, rs, _, _, rfl, rfl, SqT.of (s1 _ _ hb), hat9, a9, CR, dx9, _, _, rfl, s1 _ _ g9, clR, A0.r1, rfl, sz_3, fun L hL => ?_⟩
      have s2 := same_new s1 hL (.tup [.ref L1, .int ((pl : Int) + 1), .str f9.k])
      refine q _ L L1 ((n : Int), (d : Int), 0) 1 f9.k s2 upd_same (SqT.of ?_) (.inr ⟨n, d, f9, hf, rfl, hd1, hd3, .inl ⟨rfl, rfl, rfl⟩⟩) (.inr fun z => z.elim (fun z => by have : (n : Int) = -1 := congrArg Prod.fst z.1; omega) fun ⟨n2, d2, f2, _, z, _⟩ => by have : (1 : Int) = 0 := congrArg (fun x : Int × Int × Int => x.2.2) z; omega)
      rw [upd_ne (ne_of_none upd_same hL)]; exact upd_same
    | false =>
      refine ⟨_, rfl, mb, _, rfl, hmb, rfl, _, _, rfl, _, _, rfl, _, _, rfl, rfl, ?_⟩
      refine ⟨_, rfl, false, rfl, ifF ?_⟩
      refine ⟨_, rfl, _, _, rfl, rfl, _, rfl, ?_⟩
      refine ify (decide_eq_true (show (0 : Int) ≤ (n : Int) by omega)) ?_
      refine ⟨_, rfl, rd, CD, dd, _, _, rfl, hrd, clD, A0.d1, rfl, _, rfl, b, rs, _, _, rfl, rfl, SqT.of hb, hat9, a9, CR, dx9, _, _, rfl, g9, clR, A0.r1, rfl, ?_⟩
      let σ9 : Option V → Option V → L2.St := fun v9 v10 => [some (.ref rd), some (.ref mb), some (.str (S t)), some (.int (pl : Int)), some (.bl en), some (.int (n : Int)), some (.int (d : Int)), some (.int 0), some (.str f9.k), v9, v10]
      refine ⟨fun σ' H' => σ' = σ9 none none ∧ H' = H ∧ S [c9] ≠ f9.es, ?_, ?_⟩
      · refine ⟨_, rfl, _, _, rfl, rfl, _, rfl, ?_⟩
        refine ify (decide_eq_true (show (0 : Int) ≤ (n : Int) by omega)) ?_
        refine ⟨_, rfl, _, rfl, S t, _, c9, rfl, rfl, szB (by rw [S_len]; exact htl), hatc, ?_⟩
        refine ⟨_, rfl, rd, CD, dd, _, _, rfl, hrd, clD, A0.d1, rfl, _, rfl, b, rs, _, _, rfl, rfl, SqT.of hb, hat9, a9, CR, dx9, _, _, rfl, g9, clR, A0.r5, rfl, rfl, _, rfl, ?_⟩
        by_cases hce : S [c9] = f9.es
        · refine ify (decide_eq_true (congrArg V.str hce)) ?_
          refine ⟨_, rfl, _, rfl, sz_3, fun L1 hL1 => ⟨_, rfl, _, _, rfl, rfl, _, rfl, sz_3, fun L hL => ?_⟩⟩
          have s1 := same1 hL1 (.tup [.int (n : Int), .int (d : Int), .int 1])
          have s2 := same_new s1 hL (.tup [.ref L1, .int ((pl : Int) + 1), .str f9.k])
          refine q _ L L1 ((n : Int), (d : Int), 1) 1 f9.k s2 upd_same (SqT.of ?_) (.inr ⟨n, d, f9, hf, rfl, hd1, hd3, .inr (.inl ⟨rfl, by rw [etake]; exact hce, rfl, rfl⟩)⟩) (.inr fun z => z.elim (fun z => by have : (n : Int) = -1 := congrArg Prod.fst z.1; omega) fun ⟨n2, d2, f2, z1, z, z3, _⟩ => by
            have e1 : (n : Int) = (n2 : Int) := congrArg Prod.fst z
            have e2 : n = n2 := by omega
            subst e2
            rw [hf] at z1; cases z1
            exact z3 (by rw [etake]; exact hce))
          rw [upd_ne (ne_of_none upd_same hL)]; exact upd_same
        · exact ifn (decide_eq_false fun z => hce (V.str.inj z)) ⟨rfl, rfl, hce⟩
      rintro σ1 H1 ⟨rfl, rfl, hce⟩
      obtain ⟨b2, bb, ys, kys, hat, hbb, kp, ks, km⟩ := hmk n f9 d hf hd1 hd3
      refine ⟨fun σ' H' => σ' = σ9 none none ∧ Same H1 H' ∧ (en = true ∨ ¬ BegM (pmL f9.op f9.cl f9.nd f9.db n d) (t.drop pl)), ?_, ?_⟩
      · refine ⟨_, rfl, _, rfl, ?_⟩
        cases en with
        | true => exact ifF ⟨rfl, fun _ _ z => z, .inl rfl⟩
        | false =>
          refine ifT ⟨_, rfl, rd, dd, _, rfl, hrd, rfl, _, rfl, _, rfl, _, rfl, rd, dd, b, p, mb, xs, pmL f9.op f9.cl f9.nd f9.db n d, ((n : Int), (d : Int), 0), t, pl, rfl, hrd, hp, hxs, ⟨b2, bb, ys, kys, hat, hbb, kp, ks, km⟩, hmb, hpl, htl, pmL_lenG, pmL_short hFS, fun H9 s9 => ⟨_, rfl, ?_⟩⟩
          by_cases hbg : BegM (pmL f9.op f9.cl f9.nd f9.db n d) (t.drop pl)
          · exact ify (decide_eq_true hbg) (qn H9 s9 rfl (.inr ⟨n, d, f9, hf, rfl, by rw [etake]; exact hce, hbg⟩))
          · exact ifn (decide_eq_false hbg) ⟨rfl, s9, .inr hbg⟩
      rintro σ1 H1' ⟨rfl, s9, hnb⟩
      have hend : en = true ∨ ¬ BegAt fs ((n : Int), (d : Int), 0) (t.drop pl) := hnb.imp id fun z y => y.elim (fun y => by have : (n : Int) = -1 := congrArg Prod.fst y.1; omega) fun ⟨n2, d2, f2, y1, y, _, y4⟩ => by
        have e1 : (n : Int) = (n2 : Int) := congrArg Prod.fst y
        have e2 : n = n2 := by omega
        have e3 : (d : Int) = (d2 : Int) := congrArg (fun x : Int × Int × Int => x.2.1) y
        have e4 : d = d2 := by omega
        subst e2
        subst e4
        rw [hf] at y1; cases y1
        exact z y4
      replace hrd := s9 _ _ hrd
      replace hp := s9 _ _ hp
      replace hxs := hxs.ext (extN_same s9)
      replace hmb := sqT_same s9 hmb
      replace hb := s9 _ _ hb
      replace g9 := s9 _ _ g9
      replace hfd : FdsAt CR H1' rs fs := hfd.keep fun c dx f z => s9 _ _ z
      replace hbb := s9 _ _ hbb
      replace km := km.imp fun v k z => z.same s9
      replace q := fun (H' : Hp) (r mb' : Addr) (m' : Int × Int × Int) (w9 : Nat) (kd : Str) (z : Same H1' H') => q H' r mb' m' w9 kd (fun c o y => z _ _ (s9 _ _ y))
      clear hmk s9 hcode
      revert hrd hp hxs hmb hb hfd hbb km q g9
      generalize H1' = H1
      intro hrd hp hxs hmb hb g9 hfd hbb km q
      refine ⟨_, rfl, rd, CD, dd, _, _, rfl, hrd, clD, A0.d2, rfl, _, rfl, p, xs, keyOf ((n : Int), (d : Int), 0), mb, b2, .ref bb, .ref bb, rfl, hp, hxs, rfl, hmb, hat, rfl, bb, rfl, ⟨_, SqT.of hbb⟩, ?_⟩
      refine for_it (walk_tup (K := K) (a := bb) (xs := ys)) (fun i σ' H' => ∃ v9 v10 : Option V, σ' = σ9 v9 v10 ∧ H' = H1 ∧ ∀ j k, j < i → kys[j]? = some k → decide (Sw (TL.tl k.1) (t.drop pl)) = false)
        ⟨none, none, rfl, rfl, fun j k hj _ => absurd hj (Nat.not_lt_zero _)⟩ (fun i σ' H' _ z => by obtain ⟨_, _, _, rfl, _⟩ := z; exact SqT.of hbb) ?_ ?_
      · rintro i v σ' H2 H3 hi ⟨v9, v10, rfl, rfl, hno⟩ ⟨rfl, hv⟩
        have hil : i < kys.length := by rw [← km.1]; exact (List.getElem?_eq_some_iff.mp hv).1
        have hk : kys[i]? = some kys[i] := List.getElem?_eq_getElem hil
        generalize kys[i] = k at hk
        obtain ⟨t', u, rfl, ht', mk', rfl, hmk'⟩ := km.2 i v k hv hk
        have kS : k.1 = S (TL.tl k.1) := (S_tl k.1).symm
        have esw : Txt.startswith3 (S t) k.1 (pl : Int) = decide (Sw (TL.tl k.1) (t.drop pl)) := by
          conv => lhs; rw [kS]
          exact sw3 (by omega)
        refine ⟨t', _, rfl, SqT.of ht', rfl, _, _, rfl, _, _, rfl, rfl, ?_⟩
        refine ⟨_, rfl, rfl, _, rfl, _, rfl, _, _, _, rfl, rfl, _, rfl, ?_⟩
        rw [esw]
        by_cases hsw : Sw (TL.tl k.1) (t.drop pl)
        · refine ify (decide_eq_true hsw) ?_
          have hfd9 := best_of (t := t.drop pl) kp ks
          rw [find_first hno hk (decide_eq_true hsw)] at hfd9
          have hop : k.1.length ≤ 1000000 := by
            have := sw_len hsw
            rw [← TL.len_tl, List.length_drop] at this
            omega
          refine ⟨_, rfl, _, rfl, _, rfl, _, k.1.length, rfl, ⟨szB hop, rfl⟩, _, _, rfl, rfl, _, rfl, _, _, rfl, rfl, _, rfl, ?_⟩
          refine ify (decide_eq_true (show (0 : Int) ≤ (n : Int) by omega)) ⟨_, rfl, sz_3, fun L hL => ?_⟩
          refine q _ L mk' k.2 k.1.length f9.k (same1 hL _) ?_ (sqT_same (same1 hL _) hmk') (.inr ⟨n, d, f9, hf, rfl, hd1, hd3, .inr (.inr ⟨rfl, by rw [etake]; exact hce, .inl ⟨k, hfd9, rfl, rfl⟩⟩)⟩) hend
          exact upd_same.trans (congrArg (fun z : Int => some (HO.tup [V.ref mk', V.int z, V.str f9.k])) (wpos _))
        · refine ifn (decide_eq_false hsw) ⟨_, _, rfl, rfl, fun j k' hj hk' => ?_⟩
          rcases Nat.lt_or_ge j i with z | z
          · exact hno j k' z hk'
          · have : j = i := by omega
            subst this
            rw [hk] at hk'; cases hk'
            exact decide_eq_false hsw
      · rintro σ' H2 ⟨v9, v10, rfl, rfl, hno⟩
        rw [km.1] at hno
        have hbest := best_of (t := t.drop pl) kp ks
        have hfn : kys.find? (fun k => decide (Sw (TL.tl k.1) (t.drop pl))) = none := List.find?_eq_none.mpr fun k hk => by
          obtain ⟨j, hj, rfl⟩ := List.mem_iff_getElem.mp hk
          rw [hno j _ hj (List.getElem?_eq_getElem hj)]
          exact Bool.false_ne_true
        rw [hfn] at hbest
        refine ⟨fun σ' H' => σ' = σ9 v9 v10 ∧ H' = H2 ∧ ¬ ((t.drop pl).take 1 = [10] ∧ f9.ln = true), ?_, ?_⟩
        · refine ⟨_, rfl, _, _, rfl, rfl, _, rfl, ?_⟩
          refine ify (decide_eq_true (show (0 : Int) ≤ (n : Int) by omega)) ?_
          refine ⟨_, rfl, _, rfl, S t, _, c9, rfl, rfl, szB (by rw [S_len]; exact htl), hatc, rfl, _, rfl, ?_⟩
          by_cases h10 : c9 = 10
          · refine ify (decide_eq_true (by rw [h10]; exact congrArg V.str (show (⟨#[10]⟩ : Str) = Str.ofString "\n" by decide +kernel))) ?_
            refine ⟨_, rfl, rd, CD, dd, _, _, rfl, hrd, clD, A0.d1, rfl, _, rfl, b, rs, _, _, rfl, rfl, SqT.of hb, hat9, a9, CR, dx9, _, _, rfl, g9, clR, A0.r7, rfl, _, rfl, ?_⟩
            by_cases hln : f9.ln = true
            · refine ify hln ⟨_, rfl, _, rfl, sz_3, fun L hL => ?_⟩
              refine q _ L _ (-1, 0, 0) 0 f9.k (same1 hL _) upd_same (gC _) (.inr ⟨n, d, f9, hf, rfl, hd1, hd3, .inr (.inr ⟨rfl, by rw [etake]; exact hce, .inr ⟨hbest, .inl ⟨by rw [etake, h10], hln, rfl, rfl⟩⟩⟩)⟩) hend
            · exact ifn (Bool.eq_false_iff.mpr hln) ⟨rfl, rfl, fun z => hln z.2⟩
          · refine ifn (decide_eq_false fun z => h10 ?_) (ifF ⟨rfl, rfl, fun z => h10 ?_⟩)
            · have e10 : Str.ofString "\n" = S [10] := by decide +kernel
              have := V.str.inj z
              rw [e10] at this
              have e11 : [c9] = [10] := S_inj this
              exact (List.cons.inj e11).1
            · rw [etake] at z; exact (List.cons.inj z.1).1
        rintro σ1 H1 ⟨rfl, rfl, hnl⟩
        refine ⟨_, rfl, _, rfl, _, _, rfl, rfl, _, rfl, sz_3, fun L hL => ?_⟩
        exact q _ L mb ((n : Int), (d : Int), 0) 1 f9.k (same1 hL _) upd_same (sqT_same (same1 hL _) hmb) (.inr ⟨n, d, f9, hf, rfl, hd1, hd3, .inr (.inr ⟨rfl, by rw [etake]; exact hce, .inr ⟨hbest, .inr ⟨hnl, rfl, rfl⟩⟩⟩)⟩) hend

end
end Vf

set_option maxRecDepth 100000
set_option maxHeartbeats 4000000
namespace Vf
open PySem PySem.Spec PyProof.Rows L2 SX
section
variable {P : Program} {w : World} {K : PySem.W.Frag} {mg : Str → Option Value} {base : Heap}
/-! ### a text read to its end -/
def ModeOk (fs : List Fd) (m : Int × Int × Int) : Prop := m = (-1, 0, 0) ∨ ∃ (n d : Nat) (e : Bool), n < fs.length ∧ 1 ≤ d ∧ (∀ f, fs[n]? = some f → d ≤ max f.nd 1) ∧ m = ((n : Int), (d : Int), if e = true then 1 else 0)
structure FdT (f : Fd) : Prop where
  o1 : 1 ≤ f.op.length
  db : f.db = true → f.cl ≠ ""
  es : f.es.length ≤ 1
  nd : f.nd ≤ 4
  k1 : f.k.length = 1
theorem str_pos {z : Str} (h : z ≠ "") : 1 ≤ z.length := by
  rcases Nat.eq_zero_or_pos z.length with e | e
  · exact absurd (TL.ext_tl (List.length_eq_zero_iff.mp (by rw [← TL.len_tl]; exact e))) h
  · exact e
def cm (m : Int × Int × Int) : Nat := if m = (-1, 0, 0) then 0 else 1
theorem step_on {fs : List Fd} {m m' : Int × Int × Int} {t : List Nat} {w : Nat} {kd : Str} (ok : ∀ f ∈ fs, FdT f) (h : StepR fs m t m' w kd) (ht : t ≠ []) (hm : ModeOk fs m) : w ≤ t.length ∧ ModeOk fs m' ∧ (1 ≤ w ∨ (w = 0 ∧ m' = (-1, 0, 0) ∧ m ≠ (-1, 0, 0))) ∧ kd.length = 1 := by
  have l1 : 1 ≤ t.length := List.length_pos_iff.mpr ht
  have lw : ∀ {k : Str × Int × Int × Int}, Sw (TL.tl k.1) t → k.1.length ≤ t.length := fun z => by rw [TL.len_tl]; exact sw_len z
  rcases h with ⟨rfl, ⟨k, hk, rfl, rfl, n, en, rfl⟩ | ⟨hb, rfl, rfl, rfl⟩⟩ | ⟨n, d, f, hf, rfl, hd1, hd2, h⟩
  · obtain ⟨j, f, hf, rfl⟩ := opL_mem hk.1
    have fo := ok f (List.mem_of_getElem? hf)
    have ej : n = j := by have : ((0 + j : Nat) : Int) = (n : Int) := en; omega
    subst ej
    refine ⟨lw hk.2.1, .inr ⟨n, 1, false, (List.getElem?_eq_some_iff.mp hf).1, Nat.le_refl _, fun g hg => by omega, by rw [Nat.zero_add]; rfl⟩, .inl fo.o1, ?_⟩
    unfold kindOf; rw [hf]; exact fo.k1
  · exact ⟨l1, hm, .inl (Nat.le_refl _), by decide +kernel⟩
  · have fo := ok f (List.mem_of_getElem? hf)
    have hn := (List.getElem?_eq_some_iff.mp hf).1
    have dn : ∀ g, fs[n]? = some g → d ≤ max g.nd 1 := fun g hg => by rw [hf] at hg; cases hg; exact hd2
    have nc : ∀ e : Int, ((n : Int), (d : Int), e) ≠ (-1, 0, 0) := fun e z => by have : (n : Int) = -1 := congrArg Prod.fst z; omega
    rcases h with ⟨rfl, rfl, rfl⟩ | ⟨rfl, _, rfl, rfl⟩ | ⟨rfl, _, ⟨k, hk, rfl, rfl⟩ | ⟨_, ⟨_, _, rfl, rfl⟩ | ⟨_, rfl, rfl⟩⟩⟩
    · exact ⟨l1, .inr ⟨n, d, false, hn, hd1, dn, rfl⟩, .inl (Nat.le_refl _), fo.k1⟩
    · exact ⟨l1, .inr ⟨n, d, true, hn, hd1, dn, rfl⟩, .inl (Nat.le_refl _), fo.k1⟩
    · refine ⟨lw hk.2.1, ?_, ?_, fo.k1⟩
      · have := hk.1
        unfold pmL at this
        rcases List.mem_append.mp this with z | z
        · split at z
          · rw [List.mem_singleton.mp z]
            by_cases c1 : 1 < d
            · rw [if_pos c1]
              exact .inr ⟨n, d - 1, false, hn, by omega, fun g hg => by have := dn g hg; omega, by rw [show (d : Int) - 1 = ((d - 1 : Nat) : Int) by omega]; rfl⟩
            · rw [if_neg c1]; exact .inl rfl
          · cases z
        · rcases List.mem_append.mp z with z | z
          · split at z
            · rename_i c1
              rw [List.mem_singleton.mp z]
              exact .inr ⟨n, d + 1, false, hn, by omega, fun g hg => by rw [hf] at hg; cases hg; omega, rfl⟩
            · cases z
          · split at z
            · rw [List.mem_singleton.mp z]
              exact .inr ⟨n, d, false, hn, hd1, dn, rfl⟩
            · cases z
      · have := hk.1
        unfold pmL at this
        refine .inl ?_
        rcases List.mem_append.mp this with z | z
        · split at z
          · rename_i c1
            rw [List.mem_singleton.mp z]; exact str_pos c1
          · cases z
        · rcases List.mem_append.mp z with z | z
          · split at z
            · rw [List.mem_singleton.mp z]; exact fo.o1
            · cases z
          · split at z
            · rename_i c1
              rw [List.mem_singleton.mp z]
              show 1 ≤ (S (repL 2 (TL.tl f.cl))).length
              rw [S_len, rep_len, ← TL.len_tl]
              have := str_pos (fo.db c1)
              omega
            · cases z
    · exact ⟨Nat.zero_le _, .inl rfl, .inr ⟨rfl, rfl, nc 0⟩, fo.k1⟩
    · exact ⟨l1, .inr ⟨n, d, false, hn, hd1, dn, rfl⟩, .inl (Nat.le_refl _), fo.k1⟩
/-- the ways of reading that are met, with the place and the kinds ahead; en: nothing else comes -/
inductive Reach (fs : List Fd) (t : List Nat) (en : Bool) (m0 : Int × Int × Int) : (Int × Int × Int) → Nat → List Nat → Prop
  | start : Reach fs t en m0 m0 0 []
  | step {m m' : Int × Int × Int} {pl w : Nat} {ks : List Nat} {kd : Str} : Reach fs t en m0 m pl ks → pl < t.length → StepR fs m (t.drop pl) m' w kd → (en = true ∨ ¬ BegAt fs m (t.drop pl)) → Reach fs t en m0 m' (pl + w) (ks ++ repL w (TL.tl kd))
theorem joinL_flat : ∀ ls : List (List Nat), TL.joinL [] ls = ls.flatten
  | [] => rfl
  | [l] => (List.append_nil l).symm
  | l :: m :: r => by
    show l ++ ([] ++ TL.joinL [] (m :: r)) = l ++ (m :: r).flatten
    rw [joinL_flat (m :: r)]; rfl
theorem join_flat (zs : List Str) : Txt.join ("" : Str) zs = S (zs.map TL.tl).flatten := by
  refine TL.ext_tl ?_
  have e := tl_joinS ("" : Str) zs
  rw [show TL.tl ("" : Str) = [] from by decide +kernel] at e
  rw [e, TL.tl_mk, joinL_flat]
theorem MarksMap.same {P : Program} {w : World} {K : PySem.W.Frag} {H H' : Hp} {p : Addr} {fs : List Fd} (h : MarksMap P w K H p fs) (s : Same H H') : MarksMap P w K H' p fs := let ⟨xs, a, b, c, d⟩ := h
  ⟨xs, s _ _ a, b.ext (extN_same s), c.ext (extN_same s), fun i f e g1 g2 g3 => (d i f e g1 g2 g3).ext (extN_same s)⟩
structure FdTs (fs : List Fd) : Prop where
  t : ∀ f ∈ fs, FdT f
  s : ∀ f ∈ fs, FdS f
  l : fs.length ≤ 50
def sp_read (P : Program) (w : World) (K : PySem.W.Frag) (CR CD : Addr) : Sp := fun vs H Q _ => ∃ (rd dd b p mb : Addr) (rs : List V) (fs : List Fd) (m : Int × Int × Int) (t : List Nat) (en : Bool), vs = [.ref rd, .ref mb, .str (S t), .bl en] ∧
  H rd = some (.ins CD dd [("parts", .ref b), ("_marks", .ref p)]) ∧ H b = some (.tup rs) ∧ FdsAt CR H rs fs ∧ MarksMap P w K H p fs ∧ SqT K H mb [.int m.1, .int m.2.1, .int m.2.2] ∧ t.length ≤ 100000 ∧ FdTs fs ∧ ModeOk fs m ∧
  ∀ (H' : Hp) (r mb' : Addr) (m' : Int × Int × Int) (pl : Nat) (ks : List Nat), Same H H' → H' r = some (.tup [.ref mb', .int (pl : Int), .str (S ks)]) → SqT K H' mb' [.int m'.1, .int m'.2.1, .int m'.2.2] → Reach fs t en m m' pl ks → pl ≤ t.length → (pl = t.length ∨ (en = false ∧ BegAt fs m' (t.drop pl))) → Q (.ref r) H'
theorem ok_read {CR CD CG : Addr} {f : Addr} {fd : FuncData} {q : Str} (me : Meth K CD "read" f) (F : C8.Fun K "read" q s_Reader_read f fd) (b : Binds K fd ["self", "mode", "text", "ended"] []) (T : Tx K w mg) (A0 : Ca K CR CD CG) (C_Reader_passed : C8.Met P w K mg base 2 CD "passed" (sp_passed P w K CR CD) []) : C8.Met P w K mg base 3 CD "read" (sp_read P w K CR CD) [] := by
  refine C8.met0 A0.iD.cl me F b sc_Reader_read (fun vs H Q E h => ?_) (fun cdv A outer s H vs Q E hr h => ?_)
  · obtain ⟨_, _, _, _, _, _, _, _, _, _, rfl, _⟩ := h; rfl
  have hu := hu_of hr
  refine ⟨_, (pss_cons (ps_set (i := 4) sc_Reader_read.nd rfl (Or.inl rfl) pe_int)
      (pss_cons (ps_set (i := 5) sc_Reader_read.nd rfl (Or.inl rfl) (pe_lst pa_nil))
      (pss_cons (ps_while PassesOwn.never (pt_cmpR op_lt (pv 4) (pe_callB call_len (by rfl) T.z_len PySem.boot_len (pa_cons (pv 2) pa_nil)) (nomark _))
      (pss_cons (ps_set (i := 6) sc_Reader_read.nd rfl (Or.inl rfl) (C8.pe_mt C_Reader_passed hr (by decide) (pv 0) (pa_cons (pv 1) (pa_cons (pv 2) (pa_cons (pv 4) (pa_cons (pv 3) pa_nil))))))
      (pss_cons (ps_if (pt_cmpR op_isN (pv 6) pe_non (nomark _))
      (pss_one ps_break)
      pss_nil)
      (pss_cons (ps_asg (pv 6) (pg_tup (by rfl) (pgs_cons (pg_name (i := 1) sc_Reader_read.nd rfl (Or.inl rfl)) (pgs_cons (pg_name (i := 7) sc_Reader_read.nd rfl (Or.inl rfl)) (pgs_cons (pg_name (i := 8) sc_Reader_read.nd rfl (Or.inl rfl)) pgs_nil)))))
      (pss_cons (ps_expr (pe_bm PySem.F.plainAttrs_list PySem.F.slot_list_append PySem.F.type_list_append mt_append (pv 5) (pa_cons (pe_op op_rep_str (pv 8) (pe_op op_sub (pv 7) (pv 4))) pa_nil)))
      (pss_one (ps_set (i := 4) sc_Reader_read.nd rfl (Or.inl rfl) (pv 7))))))))
      (pss_one (ps_ret (pe_tup (pa_cons (pv 1) (pa_cons (pv 4) (pa_cons (pe_join pe_str (pv 5)) pa_nil))))))))), ?_⟩
  obtain ⟨rd, dd, b, p, mb, rs, fs, m, t, en, rfl, hrd, hb, hfd, hmm, hmb, htl, okk, hm, q⟩ := h
  have ok := okk.t
  refine ⟨szB (by decide), fun L hL => ?_⟩
  have tlt : (S t).length = t.length := S_len t
  let W9 : Nat → L2.St → Hp → Prop := fun μ σ H' => ∃ (m9 : Int × Int × Int) (mbm : Addr) (pl : Nat) (zs : List Str) (v6 v7 v8 : Option V), σ = [some (.ref rd), some (.ref mbm), some (.str (S t)), some (.bl en), some (.int (pl : Int)), some (.ref L), v6, v7, v8] ∧ Same H H' ∧ H' L = some (.lst (zs.map V.str)) ∧ SqT K H' mbm [.int m9.1, .int m9.2.1, .int m9.2.2] ∧ ModeOk fs m9 ∧ pl ≤ t.length ∧ Reach fs t en m m9 pl (zs.map TL.tl).flatten ∧ (zs.map (·.length)).sum = pl ∧ zs.length + (2 * (t.length - pl) + cm m9) ≤ 2 * t.length + 1 ∧ μ = 2 * (t.length - pl) + cm m9
  have cm1 : ∀ z, cm z ≤ 1 := fun z => by unfold cm; split <;> omega
  refine ⟨W9, ⟨_, m, mb, 0, [], none, none, none, rfl, same1 hL _, upd_same, sqT_same (same1 hL _) hmb, hm, Nat.zero_le _, .start, rfl, by have := cm1 m; show 0 + _ ≤ _; omega, rfl⟩, ?_⟩
  rintro μ σ H1 ⟨m9, mbm, pl, zs, v6, v7, v8, rfl, s1, hL1, hmb1, hm1, hpl, hre, hsum, hcnt, rfl⟩
  refine ⟨_, rfl, _, rfl, _, t.length, rfl, ⟨by rw [tlt]; exact szB (by omega), tlt.symm⟩, _, _, rfl, rfl, _, rfl, ?_⟩
  by_cases hlt : pl < t.length
  · refine ify (decide_eq_true (by omega)) ⟨fun σ' H' => ∃ m', m' < 2 * (t.length - pl) + cm m9 ∧ W9 m' σ' H', fun _ _ z => z, ?_⟩
    have fds1 : FdsAt CR H1 rs fs := hfd.keep fun c dx f z => s1 _ _ z
    refine ⟨_, rfl, rd, dd, _, rfl, s1 _ _ hrd, rfl, _, rfl, _, rfl, _, rfl, _, rfl, rd, dd, b, p, mbm, rs, fs, m9, t, pl, en, rfl, s1 _ _ hrd, s1 _ _ hb, fds1, hmm.same s1, hmb1, hlt, by omega, okk.s, okk.l, hm1, (fun H2 r mb2 m2 w9 kd s2 hr2 hmb2 hst hne2 => ?_), fun H2 s2 hen hbg => ?_⟩
    rotate_left
    · have hL2 := s2 _ _ hL1
      have s12 : Same H H2 := fun c o z => s2 _ _ (s1 _ _ z)
      refine ⟨_, rfl, rfl, _, rfl, ify (decide_eq_true rfl) ?_⟩
      have e0 : ("" : Str).length = 0 := by decide +kernel
      refine ⟨_, rfl, _, rfl, ⟨_, rfl⟩, _, rfl, _, L, zs, rfl, rfl, .inl (SqL.of hL2), by rw [hsum, e0]; omega, sz_3, fun R hR => ?_⟩
      refine q _ R mbm m9 pl (zs.map TL.tl).flatten (same_new s12 hR _) ?_ (sqT_same (same1 hR _) (sqT_same s2 hmb1)) hre hpl (.inr ⟨hen, hbg⟩)
      rw [upd_same, join_flat]
    have hne : t.drop pl ≠ [] := fun z => by
      have := List.drop_eq_nil_iff.mp z
      omega
    obtain ⟨o1, o2, o3, o4⟩ := step_on ok hst hne hm1
    rw [List.length_drop] at o1
    have tk : (TL.tl kd).length = 1 := by rw [← TL.len_tl]; exact o4
    have hL2 := s2 _ _ hL1
    have rl : (repL w9 (TL.tl kd)).length = w9 := by rw [rep_len, tk, Nat.mul_one]
    refine ⟨_, rfl, rfl, _, rfl, ifn (decide_eq_false fun z => nomatch z) ?_⟩
    refine ⟨_, rfl, r, _, rfl, SqT.of hr2, rfl, _, _, rfl, _, _, rfl, _, _, rfl, rfl, ?_⟩
    refine ⟨_, rfl, .inl ⟨rfl, _, SqL.of hL2⟩, _, rfl, _, rfl, _, rfl, _, _, rfl, rfl, TL.tl kd, w9, congrArg V.str (S_tl kd).symm, congrArg V.int (show ((pl + w9 : Nat) : Int) - (pl : Int) = (w9 : Int) by omega), by omega, by rw [tk]; omega, L, _, _, rfl, rfl, hL2, szL (by rw [List.length_map]; omega), _, rfl, ?_⟩
    refine ⟨2 * (t.length - (pl + w9)) + cm m2, ?_, m2, mb2, pl + w9, zs ++ [S (repL w9 (TL.tl kd))], _, _, _, rfl, fun c o z => by rw [upd_ne (ne_of_none z hL)]; exact s2 _ _ (s1 _ _ z), by rw [upd_same, List.map_append]; rfl, sqT_upd hmb2 hL2 (fun _ z => nomatch z) (fun _ _ z => nomatch z), o2, by omega, ?_, ?_, ?_, rfl⟩
    · have a1 := cm1 m2
      rcases o3 with o3 | ⟨rfl, rfl, o5⟩
      · omega
      · have e1 : cm (-1, 0, 0) = 0 := if_pos rfl
        have e2 : cm m9 = 1 := if_neg o5
        rw [e1, e2]; omega
    · have := Reach.step hre hlt hst hne2
      rw [List.map_append, List.flatten_append]
      show Reach fs t en m m2 (pl + w9) ((zs.map TL.tl).flatten ++ ([TL.tl (S (repL w9 (TL.tl kd)))] : List (List Nat)).flatten)
      rw [TL.tl_mk, List.flatten_cons, List.flatten_nil, List.append_nil]
      exact this
    · rw [List.map_append, List.sum_append, hsum]
      show pl + ((S (repL w9 (TL.tl kd))).length + 0) = pl + w9
      rw [S_len, rl]; rfl
    · rw [List.length_append, List.length_singleton]
      have a1 := cm1 m2
      rcases o3 with o3 | ⟨rfl, rfl, o5⟩
      · omega
      · have e1 : cm (-1, 0, 0) = 0 := if_pos rfl
        have e2 : cm m9 = 1 := if_neg o5
        rw [e2] at hcnt
        rw [e1]; omega
  · refine ifn (decide_eq_false (by omega)) ?_
    have epl : pl = t.length := by omega
    have e0 : ("" : Str).length = 0 := by decide +kernel
    refine ⟨_, rfl, _, rfl, ⟨_, rfl⟩, _, rfl, _, L, zs, rfl, rfl, .inl (SqL.of hL1), by rw [hsum, e0]; omega, sz_3, fun R hR => ?_⟩
    refine q _ R mbm m9 pl (zs.map TL.tl).flatten (same_new s1 hR _) ?_ (sqT_same (same1 hR _) hmb1) hre hpl (.inl epl)
    rw [upd_same, join_flat]

end
end Vf

set_option maxRecDepth 100000
set_option maxHeartbeats 4000000
namespace Vf
/-! ### the law's step, by the longest mark that stands there -/
theorem step_some {r : Ru} (h : RuOk r) {dep : Nat} {t : List Nat} (he : ¬ (r.e ≠ [] ∧ t.take 1 = r.e)) {m : List Nat × Nat} (h1 : m ∈ marksP r dep) (hm : Sw m.1 t) (mx : ∀ n ∈ marksP r dep, Sw n.1 t → n.1.length ≤ m.1.length) : stepL r t dep = (m.1.length, m.2) := by
  have memc : r.c ≠ [] → (r.c, dep - 1) ∈ marksP r dep := fun z => by unfold marksP; rw [if_pos z]; simp
  have memo : dep < r.d → (r.o, dep + 1) ∈ marksP r dep := fun z => by unfold marksP; rw [if_pos z]; simp
  have memd : r.db = true → (r.c ++ r.c, dep) ∈ marksP r dep := fun z => by unfold marksP; rw [if_pos z]; simp
  have mems : ∀ m ∈ marksP r dep, (m = (r.c, dep - 1) ∧ r.c ≠ []) ∨ (m = (r.o, dep + 1) ∧ dep < r.d) ∨ (m = (r.c ++ r.c, dep) ∧ r.db = true) := fun m hm => by
    have := hm
    unfold marksP at this
    rcases List.mem_append.mp this with z | z
    · split at z
      · rename_i q
        exact .inl ⟨List.mem_singleton.mp z, q⟩
      · cases z
    · rcases List.mem_append.mp z with z | z
      · split at z
        · rename_i q
          exact .inr (.inl ⟨List.mem_singleton.mp z, q⟩)
        · cases z
      · split at z
        · rename_i q
          exact .inr (.inr ⟨List.mem_singleton.mp z, q⟩)
        · cases z
  have cc : Sw (r.c ++ r.c) t → Sw r.c t := fun ⟨q, z⟩ => ⟨r.c ++ q, by rw [z, List.append_assoc]⟩
  have c1 : r.c ≠ [] → 1 ≤ r.c.length := fun z => List.length_pos_iff.mpr z
  symm
  unfold stepL
  rw [if_neg he]
  by_cases a1 : r.db = true ∧ Sw (r.c ++ r.c) t
  · rw [if_pos a1]
    have d0 := h.dbd a1.1
    have b1 := mx _ (memd a1.1) a1.2
    have b2 := c1 d0.2
    rcases mems m h1 with ⟨rfl, _⟩ | ⟨rfl, z⟩ | ⟨rfl, _⟩
    · rw [List.length_append] at b1; dsimp only at b1; omega
    · omega
    · show ((r.c ++ r.c).length, dep) = _
      rw [List.length_append, Nat.two_mul]
  · rw [if_neg a1]
    by_cases a2 : dep < r.d ∧ Sw r.o t ∧ (¬ (r.c ≠ [] ∧ Sw r.c t) ∨ r.c.length < r.o.length)
    · rw [if_pos a2]
      rcases mems m h1 with ⟨rfl, z⟩ | ⟨rfl, z⟩ | ⟨rfl, z⟩
      · have b1 := mx _ (memo a2.1) a2.2.1
        rcases a2.2.2 with y | y
        · exact absurd ⟨z, hm⟩ y
        · dsimp only at b1; omega
      · rfl
      · exact absurd ⟨z, hm⟩ a1
    · rw [if_neg a2]
      by_cases a3 : r.c ≠ [] ∧ Sw r.c t
      · rw [if_pos a3]
        rcases mems m h1 with ⟨rfl, z⟩ | ⟨rfl, z⟩ | ⟨rfl, z⟩
        · rfl
        · exfalso
          have b1 := mx _ (memc a3.1) a3.2
          dsimp only at b1 hm
          have b2 : ¬ r.c.length < r.o.length := fun y => a2 ⟨z, hm, .inr y⟩
          have b3 : r.c = r.o := sw_eq a3.2 hm (by omega)
          exact (h.dc (by omega)).2 b3
        · exact absurd ⟨z, hm⟩ a1
      · exfalso
        rcases mems m h1 with ⟨rfl, z⟩ | ⟨rfl, z⟩ | ⟨rfl, z⟩
        · exact a3 ⟨z, hm⟩
        · exact a2 ⟨z, hm, .inl a3⟩
        · exact a1 ⟨z, hm⟩
theorem step_none {r : Ru} {dep : Nat} {t : List Nat} (he : ¬ (r.e ≠ [] ∧ t.take 1 = r.e)) (no : ∀ m ∈ marksP r dep, ¬ Sw m.1 t) : stepL r t dep = if t.take 1 = [10] ∧ (r.c = [] ∨ r.ln = true) then (0, 0) else (1, dep) := by
  have memc : r.c ≠ [] → (r.c, dep - 1) ∈ marksP r dep := fun z => by unfold marksP; rw [if_pos z]; simp
  have memo : dep < r.d → (r.o, dep + 1) ∈ marksP r dep := fun z => by unfold marksP; rw [if_pos z]; simp
  have memd : r.db = true → (r.c ++ r.c, dep) ∈ marksP r dep := fun z => by unfold marksP; rw [if_pos z]; simp
  have mems : ∀ m ∈ marksP r dep, (m = (r.c, dep - 1) ∧ r.c ≠ []) ∨ (m = (r.o, dep + 1) ∧ dep < r.d) ∨ (m = (r.c ++ r.c, dep) ∧ r.db = true) := fun m hm => by
    have := hm
    unfold marksP at this
    rcases List.mem_append.mp this with z | z
    · split at z
      · rename_i q
        exact .inl ⟨List.mem_singleton.mp z, q⟩
      · cases z
    · rcases List.mem_append.mp z with z | z
      · split at z
        · rename_i q
          exact .inr (.inl ⟨List.mem_singleton.mp z, q⟩)
        · cases z
      · split at z
        · rename_i q
          exact .inr (.inr ⟨List.mem_singleton.mp z, q⟩)
        · cases z
  have cc : Sw (r.c ++ r.c) t → Sw r.c t := fun ⟨q, z⟩ => ⟨r.c ++ q, by rw [z, List.append_assoc]⟩
  have c1 : r.c ≠ [] → 1 ≤ r.c.length := fun z => List.length_pos_iff.mpr z
  symm
  unfold stepL
  rw [if_neg he]
  have nc : ¬ (r.c ≠ [] ∧ Sw r.c t) := fun z => no _ (memc z.1) z.2
  have nd : ¬ (r.db = true ∧ Sw (r.c ++ r.c) t) := fun z => no _ (memd z.1) z.2
  have no2 : ¬ (dep < r.d ∧ Sw r.o t ∧ (¬ (r.c ≠ [] ∧ Sw r.c t) ∨ r.c.length < r.o.length)) := fun z => no _ (memo z.1) z.2.1
  rw [if_neg nd, if_neg no2, if_neg nc]
end Vf

set_option maxRecDepth 100000
set_option maxHeartbeats 4000000
namespace Vf
open PySem PySem.Spec PyProof.Rows L2 SX
section
variable {P : Program} {w : World} {K : PySem.W.Frag} {mg : Str → Option Value} {base : Heap}
/-! ### the program's steps are the law's -/
def ruOf (f : Fd) : Ru := ⟨(TL.tl f.k).headD 0, TL.tl f.op, TL.tl f.cl, f.nd, TL.tl f.es, f.db, f.ln⟩
def depM (m : Int × Int × Int) : Nat := if m = (-1, 0, 0) then 0 else m.2.1.toNat
def gk (k : Str × Int × Int × Int) : List Nat × Nat := (TL.tl k.1, depM k.2)
theorem tl_nil {z : Str} : TL.tl z = [] ↔ z = "" := ⟨fun h => TL.ext_tl h, fun h => by rw [h]; decide +kernel⟩
theorem depM_nat {n d : Nat} (e : Int) : depM ((n : Int), (d : Int), e) = d := by
  unfold depM
  rw [if_neg (fun z => by have : (n : Int) = -1 := congrArg Prod.fst z; omega)]
  exact Int.toNat_natCast d
theorem pm_map {f : Fd} {n d : Nat} (hd : 1 ≤ d) : (pmL f.op f.cl f.nd f.db n d).map gk = marksP (ruOf f) d := by
  unfold pmL marksP
  rw [List.map_append, List.map_append]
  refine congr (congrArg _ ?_) (congr (congrArg _ ?_) ?_)
  · by_cases h : f.cl = ""
    · rw [if_neg (fun z => z h), if_neg (fun z => z (tl_nil.mpr h))]; rfl
    · rw [if_pos h, if_pos (show (ruOf f).c ≠ [] from fun z => h (tl_nil.mp z))]
      show [(TL.tl f.cl, depM _)] = [(TL.tl f.cl, d - 1)]
      by_cases h1 : 1 < d
      · rw [if_pos h1, show (d : Int) - 1 = ((d - 1 : Nat) : Int) by omega, depM_nat]
      · rw [if_neg h1]
        have : d - 1 = 0 := by omega
        rw [this]; rfl
  · by_cases h : d < f.nd
    · rw [if_pos h, if_pos (show d < (ruOf f).d from h)]
      show [(TL.tl f.op, depM ((n : Int), (d : Int) + 1, 0))] = [(TL.tl f.op, d + 1)]
      rw [show (d : Int) + 1 = ((d + 1 : Nat) : Int) by omega, depM_nat]
    · rw [if_neg h, if_neg (show ¬ d < (ruOf f).d from h)]; rfl
  · by_cases h : f.db = true
    · rw [if_pos h, if_pos (show (ruOf f).db = true from h)]
      show [(TL.tl (S (repL 2 (TL.tl f.cl))), depM ((n : Int), (d : Int), 0))] = [(TL.tl f.cl ++ TL.tl f.cl, d)]
      rw [depM_nat, TL.tl_mk]
      have : repL 2 (TL.tl f.cl) = TL.tl f.cl ++ TL.tl f.cl := by
        show TL.tl f.cl ++ (TL.tl f.cl ++ []) = _
        rw [List.append_nil]
      rw [this]
    · rw [if_neg h, if_neg (show ¬ (ruOf f).db = true from h)]; rfl
theorem step_law {fs : List Fd} {f : Fd} {n d : Nat} {t : List Nat} {m' : Int × Int × Int} {w : Nat} {kd : Str} (ok : RuOk (ruOf f)) (hcl : f.cl = "" → f.ln = true) (hf : fs[n]? = some f) (hes : S (t.take 1) ≠ f.es) (h : StepR fs ((n : Int), (d : Int), 0) t m' w kd) : kd = f.k ∧ stepL (ruOf f) t d = (w, depM m') := by
  have he : ¬ ((ruOf f).e ≠ [] ∧ t.take 1 = (ruOf f).e) := fun z => hes (by rw [z.2]; exact S_tl f.es)
  rcases h with ⟨z, _⟩ | ⟨n2, d2, g, hg, rfl, hd1, hd2, h⟩
  · have : (n : Int) = -1 := congrArg Prod.fst z
    omega
  · rcases h with ⟨z, _⟩ | ⟨z, ze, _⟩ | ⟨z, _, h⟩
    · have : (0 : Int) = 1 := congrArg (fun x : Int × Int × Int => x.2.2) z
      omega
    · have e1 : (n : Int) = (n2 : Int) := congrArg Prod.fst z
      have e2 : n = n2 := by omega
      subst e2
      rw [hf] at hg
      cases hg
      exact absurd ze hes
    · have e1 : (n : Int) = (n2 : Int) := congrArg Prod.fst z
      have e2 : n = n2 := by omega
      have e3 : (d : Int) = (d2 : Int) := congrArg (fun x : Int × Int × Int => x.2.1) z
      have e4 : d = d2 := by omega
      subst e2
      subst e4
      rw [hf] at hg
      cases hg
      refine ⟨rfl, ?_⟩
      have em := pm_map (f := f) (n := n) hd1
      rcases h with ⟨k, ⟨k1, k2, k3⟩, rfl, rfl⟩ | ⟨hb, h⟩
      · have hmem : gk k ∈ marksP (ruOf f) d := by rw [← em]; exact List.mem_map_of_mem k1
        have := step_some ok he hmem k2 (fun x hx hs => by
          rw [← em] at hx
          obtain ⟨y, hy, rfl⟩ := List.mem_map.mp hx
          have := k3 y hy hs
          show (TL.tl y.1).length ≤ (TL.tl k.1).length
          rw [← TL.len_tl, ← TL.len_tl]
          exact this)
        rw [this]
        show ((TL.tl k.1).length, depM k.2) = _
        rw [← TL.len_tl]
      · have := step_none (r := ruOf f) (dep := d) he (fun x hx hs => by
          rw [← em] at hx
          obtain ⟨y, hy, rfl⟩ := List.mem_map.mp hx
          exact hb y hy hs)
        rw [this]
        rcases h with ⟨h1, h2, rfl, rfl⟩ | ⟨h1, rfl, rfl⟩
        · rw [if_pos ⟨h1, .inr h2⟩]; rfl
        · rw [if_neg, depM_nat]
          rintro ⟨z1, z2⟩
          refine h1 ⟨z1, ?_⟩
          rcases z2 with z2 | z2
          · exact hcl (tl_nil.mp z2)
          · exact z2
theorem opL_has : ∀ {fs : List Fd} {k n : Nat} {f : Fd}, fs[n]? = some f → (f.op, ((k + n : Nat) : Int), (1 : Int), (0 : Int)) ∈ opL k fs
  | [], _, _, _, h => by cases h
  | g :: fs, k, 0, f, h => by cases h; exact .head _
  | g :: fs, k, n + 1, f, h => by
    have := opL_has (k := k + 1) (n := n) (f := f) (fs := fs) h
    rw [show k + 1 + n = k + (n + 1) by omega] at this
    exact .tail _ this
/-- and so is where a piece opens -/
theorem open_law {fs : List Fd} {t : List Nat} {m' : Int × Int × Int} {w : Nat} {kd : Str} (nd : ∀ (i j : Nat) (f g : Fd), fs[i]? = some f → fs[j]? = some g → f.op = g.op → i = j) (h : StepR fs (-1, 0, 0) t m' w kd) :
    (openL (fs.map ruOf) t = (none, 1) ∧ m' = (-1, 0, 0) ∧ w = 1 ∧ kd = "c") ∨ ∃ n f, fs[n]? = some f ∧ openL (fs.map ruOf) t = (some n, w) ∧ w = f.op.length ∧ m' = ((n : Int), 1, 0) ∧ kd = f.k := by
  have at_map : ∀ {i : Nat} {r : Ru}, (fs.map ruOf)[i]? = some r → ∃ f, fs[i]? = some f ∧ r = ruOf f := fun {i r} h => by
    rw [List.getElem?_map] at h
    obtain ⟨f, hf, rfl⟩ := Option.map_eq_some_iff.mp h
    exact ⟨f, hf, rfl⟩
  rcases h with ⟨_, h⟩ | ⟨n, d, f, hf, rfl, hd1, hd2, h⟩
  · rcases h with ⟨k, ⟨k1, k2, k3⟩, rfl, rfl, n, en, rfl⟩ | ⟨hb, rfl, rfl, rfl⟩
    · obtain ⟨j, f, hf, rfl⟩ := opL_mem k1
      have ej : n = j := by have : ((0 + j : Nat) : Int) = (n : Int) := en; omega
      subst ej
      refine .inr ⟨n, f, hf, ?_, rfl, by rw [Nat.zero_add], by unfold kindOf; rw [hf]⟩
      have hn := (List.getElem?_eq_some_iff.mp hf).1
      rcases openL_is (fs.map ruOf) t with ⟨_, e2⟩ | ⟨i, r, h1, h2, h3, e, h5⟩
      · exact absurd k2 (e2 n (ruOf f) (by rw [List.length_map]; exact hn) (by rw [List.getElem?_map, hf]; rfl))
      · obtain ⟨g, hg, rfl⟩ := at_map h2
        have a1 := h5 n (ruOf f) (by rw [List.length_map]; exact hn) (by rw [List.getElem?_map, hf]; rfl) k2
        have a2 := k3 _ (opL_has (k := 0) hg) h3
        have a3 : (TL.tl f.op).length ≤ (TL.tl g.op).length := a1
        rw [← TL.len_tl, ← TL.len_tl] at a3
        have a4 : g.op.length ≤ f.op.length := a2
        have a5 : TL.tl g.op = TL.tl f.op := sw_eq h3 k2 (by rw [← TL.len_tl, ← TL.len_tl]; omega)
        have a6 := nd i n g f hg hf (TL.ext_tl a5)
        subst a6
        rw [e]
        show (some i, (TL.tl g.op).length) = (some i, f.op.length)
        rw [a5, ← TL.len_tl]
    · refine .inl ⟨?_, rfl, rfl, rfl⟩
      rcases openL_is (fs.map ruOf) t with ⟨e, _⟩ | ⟨i, r, h1, h2, h3, e, h5⟩
      · exact e
      · obtain ⟨g, hg, rfl⟩ := at_map h2
        exact absurd h3 (hb _ (opL_has (k := 0) hg))
  · exfalso
    rcases h with ⟨z, _⟩ | ⟨z, _⟩ | ⟨z, _⟩ <;> (have : (-1 : Int) = (n : Int) := congrArg Prod.fst z; omega)

end
end Vf

set_option maxRecDepth 100000
set_option maxHeartbeats 4000000
namespace Vf
/-! ### reading as a function: from a way of reading and the signs ahead to the way behind them and their kinds -/
abbrev Md := Option (Nat × Nat × Bool)
def nextO (rs : List Ru) : Option Nat × Nat → Md × Nat × Nat
  | (none, _) => (none, 1, 99)
  | (some k, m) => (some (k, 1, false), m, kOf rs k)
def nextM (rs : List Ru) : Md → List Nat → Md × Nat × Nat
  | none, t => nextO rs (openL rs t)
  | some (k, dep, true), _ => (some (k, dep, false), 1, kOf rs k)
  | some (k, dep, false), t => match rs[k]? with
    | none => (none, 1, 99)
    | some ru => if ru.e ≠ [] ∧ t.take 1 = ru.e then (some (k, dep, true), 1, kOf rs k)
      else ((if (stepL ru t dep).2 = 0 then none else some (k, (stepL ru t dep).2, false)), (stepL ru t dep).1, kOf rs k)
theorem nextM_in {rs : List Ru} {k d : Nat} {t : List Nat} {ru : Ru} (h : rs[k]? = some ru) : nextM rs (some (k, d, false)) t = if ru.e ≠ [] ∧ t.take 1 = ru.e then (some (k, d, true), 1, kOf rs k)
    else ((if (stepL ru t d).2 = 0 then none else some (k, (stepL ru t d).2, false)), (stepL ru t d).1, kOf rs k) := by
  show (match rs[k]? with | none => _ | some ru => _) = _
  rw [h]
def rdF (rs : List Ru) : Nat → Md → List Nat → Md × List Nat
  | 0, m, _ => (m, [])
  | _ + 1, m, [] => (m, [])
  | f + 1, m, c :: r => ((rdF rs f (nextM rs m (c :: r)).1 ((c :: r).drop (nextM rs m (c :: r)).2.1)).1, List.replicate (nextM rs m (c :: r)).2.1 (nextM rs m (c :: r)).2.2 ++ (rdF rs f (nextM rs m (c :: r)).1 ((c :: r).drop (nextM rs m (c :: r)).2.1)).2)
def OkMd (rs : List Ru) : Md → Prop
  | none => True
  | some (k, dep, _) => k < rs.length ∧ 1 ≤ dep
def muMd (m : Md) (t : List Nat) : Nat := 2 * t.length + (match m with | none => 0 | some _ => 1)
theorem muMd_le (m : Md) (t : List Nat) : 2 * t.length ≤ muMd m t ∧ muMd m t ≤ 2 * t.length + 1 := by
  cases m <;> (unfold muMd; dsimp only; omega)
theorem nextM_pos {rs : List Ru} (ok : ∀ r ∈ rs, RuOk r) {m : Md} {t : List Nat} (ht : t ≠ []) (hm : OkMd rs m) : OkMd rs (nextM rs m t).1 ∧ (nextM rs m t).2.1 ≤ t.length ∧ (1 ≤ (nextM rs m t).2.1 ∨ ((nextM rs m t).2.1 = 0 ∧ (nextM rs m t).1 = none ∧ m ≠ none)) := by
  have l1 : 1 ≤ t.length := List.length_pos_iff.mpr ht
  match m, hm with
  | none, _ =>
    have hp := openL_pos ok ht
    show OkMd rs (nextO rs (openL rs t)).1 ∧ (nextO rs (openL rs t)).2.1 ≤ t.length ∧ (1 ≤ (nextO rs (openL rs t)).2.1 ∨ _)
    cases ho : openL rs t with
    | mk b w =>
      rw [ho] at hp
      cases b with
      | none => exact ⟨trivial, l1, .inl (Nat.le_refl _)⟩
      | some k => exact ⟨⟨hp.2.2 k rfl, Nat.le_refl _⟩, hp.2.1, .inl hp.1⟩
  | some (k, dep, true), hm => exact ⟨hm, l1, .inl (Nat.le_refl _)⟩
  | some (k, dep, false), hm =>
    rw [nextM_in (List.getElem?_eq_getElem hm.1)]
    have hk : k < rs.length := hm.1
    have hr := ok rs[k] (List.getElem_mem hk)
    generalize rs[k] = ru at hr
    by_cases he : ru.e ≠ [] ∧ t.take 1 = ru.e
    · rw [if_pos he]; exact ⟨hm, l1, .inl (Nat.le_refl _)⟩
    · rw [if_neg he]
      dsimp only
      have hp := stepL_pos hr ht hm.2
      by_cases h0 : (stepL ru t dep).2 = 0
      · rw [if_pos h0]
        refine ⟨trivial, ?_, ?_⟩
        · rcases hp with z | z
          · exact z.2
          · rw [z]; exact Nat.zero_le _
        · rcases hp with z | z
          · exact .inl z.1
          · exact .inr ⟨by rw [z], rfl, fun q => nomatch q⟩
      · rw [if_neg h0]
        rcases hp with z | z
        · exact ⟨⟨hm.1, by show 1 ≤ (stepL ru t dep).2; omega⟩, z.2, .inl z.1⟩
        · rw [z] at h0; exact absurd rfl h0
theorem nextM_mu {rs : List Ru} (ok : ∀ r ∈ rs, RuOk r) {m : Md} {t : List Nat} (ht : t ≠ []) (hm : OkMd rs m) : muMd (nextM rs m t).1 (t.drop (nextM rs m t).2.1) < muMd m t := by
  obtain ⟨h1, h2, h3⟩ := nextM_pos ok ht hm
  have a := muMd_le (nextM rs m t).1 (t.drop (nextM rs m t).2.1)
  have b := muMd_le m t
  rw [List.length_drop] at a
  rcases h3 with h3 | ⟨h3, h4, h5⟩
  · omega
  · rw [h3, h4, List.drop_zero]
    cases m with
    | none => exact absurd rfl h5
    | some x => unfold muMd; dsimp only; omega
theorem rdF_fuel {rs : List Ru} (ok : ∀ r ∈ rs, RuOk r) : ∀ (f g : Nat) (m : Md) (t : List Nat), muMd m t < f → muMd m t < g → OkMd rs m → rdF rs f m t = rdF rs g m t := by
  intro f
  induction f with
  | zero => intro g m t h; exact absurd h (Nat.not_lt_zero _)
  | succ f ih =>
    intro g m t hf hg hm
    obtain ⟨g, rfl⟩ : ∃ g', g = g' + 1 := ⟨g - 1, by omega⟩
    cases t with
    | nil => rfl
    | cons c r =>
      have a := nextM_mu ok (List.cons_ne_nil c r) hm
      have b := nextM_pos ok (List.cons_ne_nil c r) hm
      show (_, _) = (_, _)
      rw [ih g _ _ (by omega) (by omega) b.1]
def rdM (rs : List Ru) (m : Md) (t : List Nat) : Md × List Nat := rdF rs (2 * t.length + 2) m t
theorem rdM_nil (rs : List Ru) (m : Md) : rdM rs m [] = (m, []) := rfl
theorem rdM_step {rs : List Ru} (ok : ∀ r ∈ rs, RuOk r) {m : Md} {t : List Nat} (ht : t ≠ []) (hm : OkMd rs m) : rdM rs m t = ((rdM rs (nextM rs m t).1 (t.drop (nextM rs m t).2.1)).1, List.replicate (nextM rs m t).2.1 (nextM rs m t).2.2 ++ (rdM rs (nextM rs m t).1 (t.drop (nextM rs m t).2.1)).2) := by
  have a := nextM_mu ok ht hm
  have b := nextM_pos ok ht hm
  have c := muMd_le m t
  have d := muMd_le (nextM rs m t).1 (t.drop (nextM rs m t).2.1)
  have e : rdF rs (2 * t.length + 1) (nextM rs m t).1 (t.drop (nextM rs m t).2.1) = rdM rs (nextM rs m t).1 (t.drop (nextM rs m t).2.1) := rdF_fuel ok _ _ _ _ (by omega) (by omega) b.1
  cases t with
  | nil => exact absurd rfl ht
  | cons x r =>
    rw [← e]
    rfl
theorem rdM_ok {rs : List Ru} (ok : ∀ r ∈ rs, RuOk r) : ∀ (n : Nat) (m : Md) (t : List Nat), muMd m t ≤ n → OkMd rs m → OkMd rs (rdM rs m t).1 ∧ (rdM rs m t).2.length = t.length := by
  intro n
  induction n using Nat.strongRecOn with
  | ind n ih =>
  intro m t hn hm
  by_cases ht : t = []
  · subst ht; exact ⟨hm, rfl⟩
  · have a := nextM_mu ok ht hm
    have b := nextM_pos ok ht hm
    have c := ih _ (Nat.lt_of_lt_of_le a hn) _ _ (Nat.le_refl _) b.1
    rw [rdM_step ok ht hm]
    refine ⟨c.1, ?_⟩
    dsimp only
    rw [List.length_append, List.length_replicate, c.2, List.length_drop]
    omega
/-! ### the kinds are those of the pieces -/
theorem rdF_kind {rs : List Ru} (ok : ∀ r ∈ rs, RuOk r) : ∀ (f : Nat) (t : List Nat), kindP rs f none t = (rdF rs f none t).2 ∧ ∀ k d e s, k < rs.length → 1 ≤ d → kindP rs f (some (k, d, e, s)) t = (rdF rs f (some (k, d, e)) t).2 := by
  intro f
  induction f with
  | zero => exact fun t => ⟨rfl, fun _ _ _ _ _ _ => rfl⟩
  | succ f ih =>
    intro t
    cases t with
    | nil => exact ⟨rfl, fun k d e s _ _ => by cases e <;> rfl⟩
    | cons c r =>
      refine ⟨?_, fun k d e s hk hd => ?_⟩
      · unfold kindP
        show _ = List.replicate (nextO rs (openL rs (c :: r))).2.1 (nextO rs (openL rs (c :: r))).2.2 ++ (rdF rs f (nextO rs (openL rs (c :: r))).1 ((c :: r).drop (nextO rs (openL rs (c :: r))).2.1)).2
        have hp := openL_pos ok (List.cons_ne_nil c r)
        cases ho : openL rs (c :: r) with
        | mk b w =>
          rw [ho] at hp
          cases b with
          | none => exact congrArg (fun z => 99 :: z) (ih r).1
          | some k => exact congrArg (fun z => List.replicate w (kOf rs k) ++ z) ((ih ((c :: r).drop w)).2 k 1 false 0 (hp.2.2 k rfl) (Nat.le_refl _))
      · cases e with
        | true => exact congrArg (fun z => kOf rs k :: z) ((ih r).2 k d false s hk hd)
        | false =>
          unfold kindP
          cases hx : rs[k]? with
          | none => exact absurd (List.getElem?_eq_none_iff.mp hx) (by omega)
          | some ru =>
            have e1 := nextM_in (d := d) (t := c :: r) hx
            show _ = List.replicate (nextM rs (some (k, d, false)) (c :: r)).2.1 (nextM rs (some (k, d, false)) (c :: r)).2.2 ++ (rdF rs f (nextM rs (some (k, d, false)) (c :: r)).1 ((c :: r).drop (nextM rs (some (k, d, false)) (c :: r)).2.1)).2
            rw [e1]
            dsimp only
            by_cases he : ru.e ≠ [] ∧ [c] = ru.e
            · rw [if_pos he, if_pos (show ru.e ≠ [] ∧ (c :: r).take 1 = ru.e from he)]
              exact congrArg (fun z => kOf rs k :: z) ((ih r).2 k d true s hk hd)
            · rw [if_neg he, if_neg (show ¬ (ru.e ≠ [] ∧ (c :: r).take 1 = ru.e) from he)]
              dsimp only
              refine congrArg (fun z => List.replicate (stepL ru (c :: r) d).1 (kOf rs k) ++ z) ?_
              by_cases h0 : (stepL ru (c :: r) d).2 = 0
              · rw [if_pos h0, if_pos h0]; exact (ih _).1
              · rw [if_neg h0, if_neg h0]; exact (ih _).2 _ _ _ _ hk (by omega)
theorem kinds_rd {rs : List Ru} (ok : ∀ r ∈ rs, RuOk r) (t : List Nat) {f : Nat} (hf : 2 * t.length < f) : kindsOf rs t.length 0 (outL rs f none 0 t) = (rdM rs none t).2 := by
  have e0 : muL none t = 2 * t.length := rfl
  have e1 : muP none t = 2 * t.length := rfl
  have e2 : muMd none t = 2 * t.length := rfl
  have a := out_eq ok (muL none t) f (2 * t.length + 2) none 0 t (Nat.le_refl _) (by omega) (by omega) trivial
  have b := (kind_eq ok (n := t.length) (2 * t.length + 2) 0 t (Nat.zero_add _)).1 0 (Nat.le_refl _) (by omega)
  rw [← a]
  show kindsOf rs t.length 0 (outP rs (2 * t.length + 2) none 0 t) = _
  rw [b, (rdF_kind ok _ t).1]
  rfl
end Vf

set_option maxRecDepth 100000
set_option maxHeartbeats 4000000
namespace Vf
/-! ### reading line by line -/
theorem sw_line {m u v : List Nat} (h : 10 ∉ m) : Sw m (u ++ 10 :: v) ↔ Sw m u := by
  constructor
  · rintro ⟨r, e⟩
    have := congrArg (List.take m.length) e
    rw [List.take_left] at this
    by_cases c : m.length ≤ u.length
    · rw [List.take_append_of_le_length c] at this
      exact ⟨u.drop m.length, by conv => lhs; rw [← List.take_append_drop m.length u, this]⟩
    · exfalso
      have e2 : (u ++ 10 :: v)[u.length]? = (m ++ r)[u.length]? := by rw [e]
      rw [List.getElem?_append_right (Nat.le_refl _), Nat.sub_self, List.getElem?_append_left (by omega)] at e2
      exact h (List.mem_of_getElem? e2.symm)
  · rintro ⟨r, rfl⟩
    exact ⟨r ++ 10 :: v, by rw [List.append_assoc]⟩
theorem opGo_congr {t t' : List Nat} : ∀ {rs : List Ru} {k : Nat} {b : Option Nat × Nat}, (∀ r ∈ rs, Sw r.o t ↔ Sw r.o t') → opGo t k rs b = opGo t' k rs b
  | [], _, _, _ => rfl
  | r :: rs, k, b, h => by
    have e : (Sw r.o t ∧ (b.1 = none ∨ b.2 < r.o.length)) = (Sw r.o t' ∧ (b.1 = none ∨ b.2 < r.o.length)) := by rw [propext (h r (.head _))]
    rw [opGo, opGo]
    have : (if Sw r.o t ∧ (b.1 = none ∨ b.2 < r.o.length) then (some k, r.o.length) else b) = (if Sw r.o t' ∧ (b.1 = none ∨ b.2 < r.o.length) then (some k, r.o.length) else b) := by
      by_cases c : Sw r.o t' ∧ (b.1 = none ∨ b.2 < r.o.length)
      · rw [if_pos c, if_pos (e.mpr c)]
      · rw [if_neg c, if_neg (fun z => c (e.mp z))]
    rw [this]
    exact opGo_congr fun q hq => h q (.tail _ hq)
theorem ite_iff {α : Type} {p q : Prop} [Decidable p] [Decidable q] {a b b' : α} (h : p ↔ q) (e : b = b') : (if p then a else b) = (if q then a else b') := by
  by_cases c : p
  · rw [if_pos c, if_pos (h.mp c)]
  · rw [if_neg c, if_neg (fun z => c (h.mpr z)), e]
theorem stepL_congr {ru : Ru} {t t' : List Nat} {d : Nat} (h1 : t.take 1 = t'.take 1) (he : ¬ (ru.e ≠ [] ∧ t.take 1 = ru.e)) (ho : Sw ru.o t ↔ Sw ru.o t') (hc : Sw ru.c t ↔ Sw ru.c t') (hcc : Sw (ru.c ++ ru.c) t ↔ Sw (ru.c ++ ru.c) t') : stepL ru t d = stepL ru t' d := by
  have he' : ¬ (ru.e ≠ [] ∧ t'.take 1 = ru.e) := by rw [← h1]; exact he
  unfold stepL
  rw [if_neg he, if_neg he', h1]
  exact ite_iff (and_congr_right fun _ => hcc) (ite_iff (and_congr_right fun _ => and_congr ho (or_congr (not_congr (and_congr_right fun _ => hc)) Iff.rfl)) (ite_iff (and_congr_right fun _ => hc) rfl))
/-- no mark has a line feed -/
def NoNl (rs : List Ru) : Prop := ∀ r ∈ rs, 10 ∉ r.o ∧ 10 ∉ r.c
theorem nextM_line {rs : List Ru} (nn : NoNl rs) {m : Md} (hm : OkMd rs m) {u v : List Nat} : nextM rs m (u ++ 10 :: v) = nextM rs m (u ++ [10]) := by
  have sw : ∀ {mk : List Nat}, 10 ∉ mk → (Sw mk (u ++ 10 :: v) ↔ Sw mk (u ++ [10])) := fun h => (sw_line h).trans (sw_line h).symm
  have t1 : (u ++ 10 :: v).take 1 = (u ++ [10]).take 1 := by cases u <;> rfl
  match m, hm with
  | none, _ => exact congrArg (nextO rs) (opGo_congr fun r hr => sw (nn r hr).1)
  | some (k, d, true), _ => rfl
  | some (k, d, false), hm =>
    have hk : k < rs.length := hm.1
    rw [nextM_in (List.getElem?_eq_getElem hk), nextM_in (List.getElem?_eq_getElem hk), t1]
    have hr := nn rs[k] (List.getElem_mem hk)
    generalize rs[k] = ru at hr
    by_cases he : ru.e ≠ [] ∧ (u ++ [10]).take 1 = ru.e
    · rw [if_pos he, if_pos he]
    · rw [if_neg he, if_neg he]
      have : stepL ru (u ++ 10 :: v) d = stepL ru (u ++ [10]) d := stepL_congr t1 (by rw [t1]; exact he) (sw hr.1) (sw hr.2) (sw (by simp; exact hr.2))
      rw [this]
theorem rdM_line {rs : List Ru} (ok : ∀ r ∈ rs, RuOk r) (nn : NoNl rs) {v : List Nat} : ∀ (n : Nat) (m : Md) (u : List Nat), muMd m (u ++ [10]) ≤ n → OkMd rs m → rdM rs m (u ++ 10 :: v) = ((rdM rs (rdM rs m (u ++ [10])).1 v).1, (rdM rs m (u ++ [10])).2 ++ (rdM rs (rdM rs m (u ++ [10])).1 v).2) := by
  intro n
  induction n using Nat.strongRecOn with
  | ind n ih =>
  intro m u hn hm
  have n1 : u ++ 10 :: v ≠ [] := by simp
  have n2 : u ++ [10] ≠ [] := by simp
  have a := nextM_mu ok n2 hm
  have b := nextM_pos ok n2 hm
  rw [rdM_step ok n1 hm, rdM_step ok n2 hm, nextM_line nn hm]
  generalize nextM rs m (u ++ [10]) = s at a b
  obtain ⟨m1, w, kd⟩ := s
  dsimp only at a b ⊢
  have bl := b.2.1
  rw [List.length_append, List.length_singleton] at bl
  by_cases hw : w ≤ u.length
  · rw [List.drop_append_of_le_length hw, List.drop_append_of_le_length hw] at *
    have c := ih _ (Nat.lt_of_lt_of_le a hn) m1 (u.drop w) (Nat.le_refl _) b.1
    rw [c]
    dsimp only
    rw [List.append_assoc]
  · have e : w = u.length + 1 := by omega
    have d1 : (u ++ 10 :: v).drop w = v := by
      rw [show u ++ 10 :: v = (u ++ [10]) ++ v by simp, e]
      exact List.drop_left' (by simp)
    have d2 : (u ++ [10]).drop w = [] := List.drop_eq_nil_of_le (by rw [List.length_append, List.length_singleton]; omega)
    rw [d1, d2, rdM_nil]
    dsimp only
    rw [List.append_nil]
/-- what stands ahead: nothing, or lines to their ends -/
def Lns (x : List Nat) : Prop := x = [] ∨ ∃ y, x = y ++ [10]
theorem first_nl : ∀ {x : List Nat}, Lns x → x = [] ∨ ∃ u z, 10 ∉ u ∧ x = u ++ 10 :: z ∧ Lns z
  | [], _ => .inl rfl
  | c :: x, h => by
    right
    have hx : c = 10 ∧ x = [] ∨ (∃ y, x = y ++ [10]) := by
      rcases h with h | ⟨y, h⟩
      · cases h
      · cases y with
        | nil => left; simpa using h
        | cons d y => right; exact ⟨y, (List.cons.inj h).2⟩
    by_cases hc : c = 10
    · subst hc
      exact ⟨[], x, by simp, rfl, hx.elim (fun z => .inl z.2) .inr⟩
    · have hx := hx.resolve_left fun z => hc z.1
      rcases first_nl (x := x) (.inr hx) with e | ⟨u, z, h1, h2, h3⟩
      · subst e; obtain ⟨y, hy⟩ := hx; simp at hy
      · exact ⟨c :: u, z, by simp; exact ⟨fun z => hc z.symm, h1⟩, by rw [h2]; rfl, h3⟩
theorem rdM_app {rs : List Ru} (ok : ∀ r ∈ rs, RuOk r) (nn : NoNl rs) {v : List Nat} : ∀ (n : Nat) (m : Md) (x : List Nat), x.length ≤ n → Lns x → OkMd rs m → rdM rs m (x ++ v) = ((rdM rs (rdM rs m x).1 v).1, (rdM rs m x).2 ++ (rdM rs (rdM rs m x).1 v).2) := by
  intro n
  induction n using Nat.strongRecOn with
  | ind n ih =>
  intro m x hn hx hm
  rcases first_nl hx with rfl | ⟨u, z, h1, rfl, h3⟩
  · rfl
  · have o := rdM_ok ok _ m (u ++ [10]) (Nat.le_refl _) hm
    have e1 := rdM_line ok nn (v := z) _ m u (Nat.le_refl _) hm
    have e2 := rdM_line ok nn (v := z ++ v) _ m u (Nat.le_refl _) hm
    rw [List.length_append, List.length_cons] at hn
    have e3 := ih z.length (by omega) (rdM rs m (u ++ [10])).1 z (Nat.le_refl _) h3 o.1
    rw [e1, List.append_assoc]
    show rdM rs m (u ++ 10 :: (z ++ v)) = _
    rw [e2, e3]
    dsimp only
    rw [List.append_assoc]
end Vf

set_option maxRecDepth 100000
set_option maxHeartbeats 4000000
namespace Vf
/-! ### stretches of a text and the starts of its lines -/
def seg (t : List Nat) (a b : Nat) : List Nat := (t.take b).drop a
theorem seg_len (t : List Nat) {a b : Nat} (h : b ≤ t.length) : (seg t a b).length = b - a := by
  unfold seg; rw [List.length_drop, List.length_take]; omega
theorem seg_app (t : List Nat) {a b c : Nat} (h1 : a ≤ b) (h2 : b ≤ c) (h3 : c ≤ t.length) : seg t a c = seg t a b ++ seg t b c := by
  unfold seg
  have e : t.take c = t.take b ++ (t.take c).drop b := by
    conv => lhs; rw [← List.take_append_drop b (t.take c), List.take_take, Nat.min_eq_left h2]
  rw [e, List.drop_append_of_le_length (by rw [List.length_take]; omega)]
  congr 1
  rw [List.drop_left' (by rw [List.length_take]; omega)]
theorem seg_self (t : List Nat) (a : Nat) : seg t a a = [] := List.drop_eq_nil_of_le (by rw [List.length_take]; omega)
theorem seg_back (t : List Nat) {a b : Nat} (h : b ≤ a) : seg t a b = [] := List.drop_eq_nil_of_le (by rw [List.length_take]; omega)
theorem seg_end (t : List Nat) (a : Nat) : seg t a t.length = t.drop a := by unfold seg; rw [List.take_of_length_le (Nat.le_refl _)]
theorem seg_zero (t : List Nat) (b : Nat) : seg t 0 b = t.take b := rfl
theorem seg_one {t : List Nat} {a c : Nat} (h : t[a]? = some c) : seg t a (a + 1) = [c] := by
  unfold seg
  have hl := (List.getElem?_eq_some_iff.mp h).1
  rw [List.take_succ, h]
  rw [List.drop_append_of_le_length (by rw [List.length_take]; omega), List.drop_eq_nil_of_le (by rw [List.length_take]; omega)]
  rfl
theorem seg_mem {t : List Nat} {a b c : Nat} (h : c ∈ seg t a b) : ∃ i, a ≤ i ∧ i < b ∧ t[i]? = some c := by
  obtain ⟨j, hj⟩ := List.mem_iff_getElem?.mp h
  unfold seg at hj
  rw [List.getElem?_drop, List.getElem?_take] at hj
  split at hj
  · exact ⟨a + j, by omega, by assumption, hj⟩
  · cases hj
def stG : Nat → List Nat → List Nat
  | _, [] => []
  | k, c :: r => if c = 10 then (k + 1) :: stG (k + 1) r else stG (k + 1) r
theorem stG_app : ∀ (a b : List Nat) (k : Nat), stG k (a ++ b) = stG k a ++ stG (k + a.length) b
  | [], b, k => rfl
  | c :: a, b, k => by
    have e : k + (c :: a).length = k + 1 + a.length := by rw [List.length_cons]; omega
    show (if c = 10 then (k + 1) :: stG (k + 1) (a ++ b) else stG (k + 1) (a ++ b)) = (if c = 10 then (k + 1) :: stG (k + 1) a else stG (k + 1) a) ++ _
    rw [stG_app a b (k + 1), e]
    by_cases h : c = 10
    · rw [if_pos h, if_pos h]; rfl
    · rw [if_neg h, if_neg h]
theorem stG_no : ∀ {a : List Nat} {k : Nat}, 10 ∉ a → stG k a = []
  | [], _, _ => rfl
  | c :: a, k, h => by
    show (if c = 10 then _ else _) = _
    rw [if_neg (fun z => h (by rw [z]; exact .head _)), stG_no (fun z => h (.tail _ z))]
theorem stG_count : ∀ (a : List Nat) (k : Nat), (stG k a).length = a.count 10
  | [], _ => rfl
  | c :: a, k => by
    show (if c = 10 then (k + 1) :: stG (k + 1) a else stG (k + 1) a).length = _
    by_cases h : c = 10
    · rw [if_pos h, h, List.count_cons_self, List.length_cons, stG_count a]
    · rw [if_neg h, List.count_cons_of_ne h, stG_count a]
theorem stG_mem : ∀ {a : List Nat} {k p : Nat}, p ∈ stG k a → k < p ∧ p ≤ k + a.length
  | [], _, _, h => by cases h
  | c :: a, k, p, h => by
    rw [List.length_cons]
    have h2 : p ∈ (if c = 10 then (k + 1) :: stG (k + 1) a else stG (k + 1) a) := h
    by_cases hc : c = 10
    · rw [if_pos hc] at h2
      rcases List.mem_cons.mp h2 with rfl | h2
      · omega
      · have := stG_mem h2; omega
    · rw [if_neg hc] at h2
      have := stG_mem h2; omega
theorem stG_add : ∀ (a : List Nat) (k d : Nat), stG (k + d) a = (stG k a).map (· + d)
  | [], _, _ => rfl
  | c :: a, k, d => by
    show (if c = 10 then (k + d + 1) :: stG (k + d + 1) a else stG (k + d + 1) a) = (if c = 10 then (k + 1) :: stG (k + 1) a else stG (k + 1) a).map _
    have e := stG_add a (k + 1) d
    rw [show k + 1 + d = k + d + 1 by omega] at e
    by_cases h : c = 10
    · rw [if_pos h, if_pos h, e, List.map_cons, show k + 1 + d = k + d + 1 by omega]
    · rw [if_neg h, if_neg h, e]
theorem stG_seg (t : List Nat) {a b c : Nat} (h1 : a ≤ b) (h2 : b ≤ c) (h3 : c ≤ t.length) : stG a (seg t a c) = stG a (seg t a b) ++ stG b (seg t b c) := by
  rw [seg_app t h1 h2 h3, stG_app, seg_len t (by omega), show a + (b - a) = b by omega]
def mAt (rs : List Ru) (t : List Nat) (p : Nat) : Md := (rdM rs none (t.take p)).1
def kdsOf (rs : List Ru) (t : List Nat) : List Nat := (rdM rs none t).2
def mdsOf (rs : List Ru) (t : List Nat) : List Md := (0 :: stG 0 t).map (mAt rs t)
/-- a line begins there -/
def LnAt (t : List Nat) (p : Nat) : Prop := p ≤ t.length ∧ Lns (t.take p)
theorem lnAt_zero (t : List Nat) : LnAt t 0 := ⟨Nat.zero_le _, .inl rfl⟩
theorem lnAt_succ {t : List Nat} {i : Nat} (h : t[i]? = some 10) : LnAt t (i + 1) := by
  have hl := (List.getElem?_eq_some_iff.mp h).1
  refine ⟨hl, .inr ⟨t.take i, ?_⟩⟩
  rw [List.take_succ, h]
  rfl
section
variable {rs : List Ru} (ok : ∀ r ∈ rs, RuOk r) (nn : NoNl rs)
include ok nn
theorem mAt_app {t : List Nat} {p q : Nat} (h : LnAt t p) (h1 : p ≤ q) (h2 : q ≤ t.length) : mAt rs t q = (rdM rs (mAt rs t p) (seg t p q)).1 ∧ (rdM rs none (t.take q)).2 = (rdM rs none (t.take p)).2 ++ (rdM rs (mAt rs t p) (seg t p q)).2 := by
  have e := seg_app t (Nat.zero_le p) h1 h2
  rw [seg_zero, seg_zero] at e
  unfold mAt
  rw [e, rdM_app ok nn _ none (t.take p) (Nat.le_refl _) h.2 trivial]
  exact ⟨rfl, rfl⟩
theorem mAt_ok (t : List Nat) (p : Nat) : OkMd rs (mAt rs t p) := (rdM_ok ok _ none (t.take p) (Nat.le_refl _) trivial).1
theorem kds_len (t : List Nat) : (kdsOf rs t).length = t.length := (rdM_ok ok _ none t (Nat.le_refl _) trivial).2
theorem kds_take {t : List Nat} {p : Nat} (h : LnAt t p) : (kdsOf rs t).take p = kdsOf rs (t.take p) ∧ (kdsOf rs t).drop p = (rdM rs (mAt rs t p) (t.drop p)).2 := by
  have a := (mAt_app ok nn h h.1 (Nat.le_refl _)).2
  rw [List.take_of_length_le (Nat.le_refl _), seg_end] at a
  have l : (rdM rs none (t.take p)).2.length = p := by
    have := kds_len ok nn (t.take p)
    rw [List.length_take, Nat.min_eq_left h.1] at this
    exact this
  unfold kdsOf
  rw [a]
  exact ⟨List.take_left' l, List.drop_left' l⟩
/-- the kinds between two beginnings of lines (or to the end) -/
theorem kds_seg {t : List Nat} {p q : Nat} (h : LnAt t p) (h1 : p ≤ q) (h2 : LnAt t q ∨ q = t.length) : seg (kdsOf rs t) p q = (rdM rs (mAt rs t p) (seg t p q)).2 := by
  have hq : q ≤ t.length := h2.elim (fun z => z.1) fun z => by omega
  have a := (mAt_app ok nn h h1 hq).2
  have l : (rdM rs none (t.take p)).2.length = p := by
    have := kds_len ok nn (t.take p)
    rw [List.length_take, Nat.min_eq_left h.1] at this
    exact this
  unfold seg
  have e : (kdsOf rs t).take q = (rdM rs none (t.take q)).2 := by
    rcases h2 with z | z
    · exact (kds_take ok nn z).1
    · rw [z, List.take_of_length_le (Nat.le_refl _), List.take_of_length_le (by rw [kds_len ok nn]; exact Nat.le_refl _)]; rfl
  rw [e, a]
  exact List.drop_left' l
end
/-! ### reading again -/
def RaRes (rs : List Ru) (t : List Nat) (p0 ed : Nat) (bs : List Md) (ks : List Nat) (ms : List Md) (e used : Nat) : Prop :=
  ∃ x, p0 ≤ x ∧ x ≤ t.length ∧ ks = seg (kdsOf rs t) p0 e ∧ ms = (stG p0 (seg t p0 x)).map (mAt rs t) ∧ used = (stG ed (seg t ed x)).length ∧ ((x = t.length ∧ e = t.length) ∨ (e = x + 1 ∧ t[x]? = some 10 ∧ ed ≤ x ∧ bs[used]? = some (mAt rs t e)))
/-- between the turns -/
structure RaAt (rs : List Ru) (t : List Nat) (p0 ed p : Nat) (ks : List Nat) (ms : List Md) (used : Nat) : Prop where
  le : p0 ≤ p
  ln : LnAt t p
  hk : ks = seg (kdsOf rs t) p0 p
  hm : ms = (stG p0 (seg t p0 p)).map (mAt rs t)
  hu : used = (stG ed (seg t ed p)).length
section
variable {rs : List Ru} (ok : ∀ r ∈ rs, RuOk r) (nn : NoNl rs) {t : List Nat} {p0 ed p : Nat} {ks : List Nat} {ms : List Md} {used : Nat}
include ok nn
theorem ra_start (h : LnAt t p0) (hp : p0 ≤ ed) : RaAt rs t p0 ed p0 [] [] 0 := ⟨Nat.le_refl _, h, (seg_self _ _).symm, by rw [seg_self]; rfl, by rw [seg_back t hp]; rfl⟩
theorem ra_last (h : RaAt rs t p0 ed p ks ms used) (h0 : LnAt t p0) (hn : 10 ∉ t.drop p) (bs : List Md) : RaRes rs t p0 ed bs (ks ++ (rdM rs (mAt rs t p) (t.drop p)).2) ms t.length used := by
  have hl := h.ln.1
  have kl := kds_len ok nn t
  have no : ∀ {i : Nat}, p ≤ i → t[i]? ≠ some 10 := fun {i} hi z => hn (by
    refine List.mem_iff_getElem?.mpr ⟨i - p, ?_⟩
    rw [List.getElem?_drop, show p + (i - p) = i by omega]; exact z)
  refine ⟨t.length, by have := h.le; omega, Nat.le_refl _, ?_, ?_, ?_, .inl ⟨rfl, rfl⟩⟩
  · rw [h.hk, seg_app _ h.le hl (by omega)]
    congr 1
    rw [kds_seg ok nn h.ln hl (.inr rfl), seg_end]
  · rw [h.hm, stG_seg t h.le hl (Nat.le_refl _)]
    rw [stG_no (a := seg t p t.length) (fun z => by obtain ⟨i, a, b, c⟩ := seg_mem z; exact no a c), List.append_nil]
  · rw [h.hu]
    by_cases c : ed ≤ p
    · rw [stG_seg t c hl (Nat.le_refl _), stG_no (a := seg t p t.length) (fun z => by obtain ⟨i, a, b, c⟩ := seg_mem z; exact no a c), List.append_nil]
    · rw [seg_back t (by omega), stG_no (a := seg t ed t.length) (fun z => by obtain ⟨i, a, b, c⟩ := seg_mem z; exact no (by omega) c)]; rfl
theorem ra_line (h : RaAt rs t p0 ed p ks ms used) {i : Nat} (hi : p ≤ i) (hx : t[i]? = some 10) (hno : ∀ j, p ≤ j → j < i → t[j]? ≠ some 10) :
    mAt rs t (i + 1) = (rdM rs (mAt rs t p) (seg t p (i + 1))).1 ∧
    (ed ≤ i → ∀ bs : List Md, bs[used]? = some (mAt rs t (i + 1)) → RaRes rs t p0 ed bs (ks ++ (rdM rs (mAt rs t p) (seg t p (i + 1))).2) ms (i + 1) used) ∧
    RaAt rs t p0 ed (i + 1) (ks ++ (rdM rs (mAt rs t p) (seg t p (i + 1))).2) (ms ++ [mAt rs t (i + 1)]) (if ed ≤ i then used + 1 else used) := by
  have hl := h.ln.1
  have kl := kds_len ok nn t
  have ti := (List.getElem?_eq_some_iff.mp hx).1
  have l2 := lnAt_succ hx
  have a := mAt_app ok nn h.ln (show p ≤ i + 1 by omega) l2.1
  have hk2 : ks ++ (rdM rs (mAt rs t p) (seg t p (i + 1))).2 = seg (kdsOf rs t) p0 (i + 1) := by
    rw [h.hk, seg_app _ h.le (show p ≤ i + 1 by omega) (by omega)]
    congr 1
    rw [kds_seg ok nn h.ln (by omega) (.inl l2)]
  have no : ∀ {q : Nat}, p ≤ q → stG q (seg t q i) = [] := fun {q} hq => stG_no (fun z => by obtain ⟨j, a, b, c⟩ := seg_mem z; exact hno j (by omega) b c)
  have e1 : stG p0 (seg t p0 i) = stG p0 (seg t p0 p) := by
    rw [stG_seg t h.le hi (by omega), no (Nat.le_refl _), List.append_nil]
  have e2 : ed ≤ i → stG ed (seg t ed i) = stG ed (seg t ed p) := fun hd => by
    by_cases c : ed ≤ p
    · rw [stG_seg t c hi (by omega), no (Nat.le_refl _), List.append_nil]
    · rw [seg_back t (show p ≤ ed by omega), no (by omega)]; rfl
  have one : stG i (seg t i (i + 1)) = [i + 1] := by rw [seg_one hx]; rfl
  refine ⟨a.1, fun hd bs hb => ⟨i, by have := h.le; omega, by omega, hk2, by rw [h.hm, e1], by rw [h.hu, e2 hd], .inr ⟨rfl, hx, hd, hb⟩⟩, ?_⟩
  refine ⟨by have := h.le; omega, l2, hk2, ?_, ?_⟩
  · have := h.le
    rw [h.hm, stG_seg t (show p0 ≤ i by omega) (Nat.le_succ i) ti, e1, one, List.map_append]; rfl
  · by_cases c : ed ≤ i
    · rw [if_pos c, h.hu, stG_seg t c (Nat.le_succ i) ti, e2 c, one, List.length_append]; rfl
    · rw [if_neg c, h.hu, seg_back t (show p ≤ ed by omega), seg_back t (show i + 1 ≤ ed by omega)]
end
end Vf

set_option maxRecDepth 100000
set_option maxHeartbeats 4000000
namespace Vf
/-! ### a text with a stretch exchanged -/
theorem ra_used {rs : List Ru} {t : List Nat} {p0 ed p : Nat} {ks : List Nat} {ms : List Md} {used : Nat} (h : RaAt rs t p0 ed p ks ms used) {i : Nat} (hi : p ≤ i) (hd : ed ≤ i) (hx : t[i]? = some 10) (hno : ∀ j, p ≤ j → j < i → t[j]? ≠ some 10) : used < (stG ed (t.drop ed)).length := by
  have ti := (List.getElem?_eq_some_iff.mp hx).1
  have hl := h.ln.1
  have e : stG ed (t.drop ed) = stG ed (seg t ed i) ++ stG i (seg t i t.length) := by
    rw [← seg_end, stG_seg t hd (by omega) (Nat.le_refl _)]
  have e2 : stG i (seg t i t.length) = (i + 1) :: stG (i + 1) (seg t (i + 1) t.length) := by
    rw [stG_seg t (Nat.le_succ i) ti (Nat.le_refl _), seg_one hx]; rfl
  have e3 : stG ed (seg t ed i) = stG ed (seg t ed p) := by
    by_cases c : ed ≤ p
    · rw [stG_seg t c hi (by omega), stG_no (a := seg t p i) (fun z => by obtain ⟨j, a, b, c⟩ := seg_mem z; exact hno j a b c), List.append_nil]
    · rw [seg_back t (show p ≤ ed by omega), stG_no (a := seg t ed i) (fun z => by obtain ⟨j, a, b, c⟩ := seg_mem z; exact hno j (by omega) b c)]; rfl
  rw [e, e2, List.length_append, List.length_cons, e3, h.hu]
  omega
section
variable {rs : List Ru} (ok : ∀ r ∈ rs, RuOk r) (nn : NoNl rs) {t P : List Nat} {start stop begin : Nat}
/-- the old text, cut and put together anew -/
def exch (t P : List Nat) (start stop : Nat) : List Nat := t.take start ++ P ++ t.drop stop
structure XcAt (t : List Nat) (start stop begin : Nat) : Prop where
  s1 : start ≤ stop
  s2 : stop ≤ t.length
  b1 : begin ≤ start
  b2 : LnAt t begin
  b3 : 10 ∉ seg t begin start
theorem exch_len (h1 : start ≤ stop) (h2 : stop ≤ t.length) : (exch t P start stop).length = start + P.length + (t.length - stop) := by
  unfold exch; rw [List.length_append, List.length_append, List.length_take, List.length_drop]; omega
theorem exch_take (h1 : start ≤ stop) (h2 : stop ≤ t.length) {q : Nat} (hq : q ≤ start) : (exch t P start stop).take q = t.take q := by
  unfold exch
  rw [List.append_assoc, List.take_append_of_le_length (by rw [List.length_take]; omega), List.take_take, Nat.min_eq_left hq]
theorem exch_drop (h1 : start ≤ stop) (h2 : stop ≤ t.length) (y : Nat) : (exch t P start stop).drop (start + P.length + y) = t.drop (stop + y) := by
  unfold exch
  rw [← List.drop_drop, List.drop_left' (by rw [List.length_append, List.length_take]; omega), List.drop_drop]
theorem exch_ln (h : XcAt t start stop begin) : LnAt (exch t P start stop) begin := by
  refine ⟨?_, ?_⟩
  · have := exch_len (P := P) h.s1 h.s2; have := h.b1; omega
  · rw [exch_take h.s1 h.s2 h.b1]; exact h.b2.2
theorem exch_mAt (h1 : start ≤ stop) (h2 : stop ≤ t.length) {q : Nat} (hq : q ≤ start) : mAt rs (exch t P start stop) q = mAt rs t q := by
  unfold mAt; rw [exch_take h1 h2 hq]
theorem exch_seg_begin (h : XcAt t start stop begin) : seg (exch t P start stop) begin start = seg t begin start := by
  unfold seg; rw [exch_take h.s1 h.s2 (Nat.le_refl _)]
include ok nn
theorem exch_last (h : XcAt t start stop begin) : ((0 :: stG 0 (t.take start)).map (mAt rs t)).getLast? = some (mAt rs (exch t P start stop) begin) := by
  rw [exch_mAt h.s1 h.s2 h.b1]
  have hs := h.s1
  have hs2 := h.s2
  have e : stG 0 (t.take start) = stG 0 (seg t 0 begin) := by
    rw [← seg_zero, stG_seg t (Nat.zero_le _) h.b1 (by omega), stG_no h.b3, List.append_nil]
  rw [e, seg_zero]
  rcases h.b2.2 with z | ⟨y, z⟩
  · have : begin = 0 := by
      have := congrArg List.length z
      rw [List.length_take] at this
      have := h.b1
      simp only [List.length_nil] at *
      omega
    subst this
    rw [z]; rfl
  · have e2 : stG 0 (t.take begin) = stG 0 y ++ [begin] := by
      rw [z, stG_app]
      have := congrArg List.length z
      rw [List.length_take, List.length_append, List.length_singleton] at this
      have := h.b1
      congr 1
      show [0 + y.length + 1] = [begin]
      congr 1
      omega
    rw [e2, List.map_cons, List.map_append, ← List.cons_append, List.map_singleton, List.getLast?_append]
    rfl
theorem exch_all (h : XcAt t start stop begin) {ks : List Nat} {ms : List Md} {e used : Nat} (r : RaRes rs (exch t P start stop) begin (start + P.length) ((stG stop (t.drop stop)).map (mAt rs t)) ks ms e used) :
    mdsOf rs (exch t P start stop) = (0 :: stG 0 (t.take start)).map (mAt rs t) ++ (ms ++ ((stG stop (t.drop stop)).map (mAt rs t)).drop used) ∧
    kdsOf rs (exch t P start stop) = (kdsOf rs t).take begin ++ (ks ++ (kdsOf rs t).drop (e + t.length - (exch t P start stop).length)) ∧
    start + P.length ≤ e ∧ e ≤ (exch t P start stop).length ∧ ks = seg (kdsOf rs (exch t P start stop)) begin e ∧
    (∀ k, k < begin → (kdsOf rs (exch t P start stop))[k]? = (kdsOf rs t)[k]?) ∧ (∀ k, e ≤ k → (kdsOf rs (exch t P start stop))[k]? = (kdsOf rs t)[k + t.length - (exch t P start stop).length]?) := by
  obtain ⟨x, hx1, hx2, rfl, rfl, rfl, hc⟩ := r
  have hl := exch_len (P := P) h.s1 h.s2
  have s1 := h.s1
  have s2 := h.s2
  have b1 := h.b1
  have ln' := exch_ln (P := P) h
  have hdrop := exch_drop (t := t) (P := P) s1 s2
  have htake := fun {q} hq => exch_take (t := t) (P := P) (q := q) s1 s2 hq
  have hmq := fun {q} hq => exch_mAt (rs := rs) (t := t) (P := P) (q := q) s1 s2 hq
  have hsb := exch_seg_begin (P := P) h
  have kl := kds_len ok nn t
  have kl' := kds_len ok nn (exch t P start stop)
  generalize hT : exch t P start stop = T at *
  have hed : start + P.length ≤ x := by rcases hc with ⟨z, _⟩ | ⟨_, _, z, _⟩ <;> omega
  have hedT : start + P.length ≤ T.length := by omega
  -- the starts of lines
  have eP : stG 0 T = stG 0 (t.take start) ++ (stG start (seg T start x) ++ stG x (seg T x T.length)) := by
    have := stG_seg T (Nat.zero_le start) (by omega : start ≤ T.length) (Nat.le_refl _)
    rw [seg_zero, seg_zero, List.take_of_length_le (Nat.le_refl _)] at this
    rw [this, stG_seg T (by omega : start ≤ x) hx2 (Nat.le_refl _), htake (Nat.le_refl _)]
  have eM : stG begin (seg T begin x) = stG start (seg T start x) := by
    rw [stG_seg T b1 (by omega) hx2, hsb, stG_no h.b3, List.nil_append]
  have m1 : (0 :: stG 0 (t.take start)).map (mAt rs T) = (0 :: stG 0 (t.take start)).map (mAt rs t) := by
    refine List.map_congr_left fun q hq => hmq ?_
    rcases List.mem_cons.mp hq with rfl | hq
    · exact Nat.zero_le _
    · have := stG_mem hq
      rw [List.length_take] at this
      omega
  -- the lines behind
  obtain ⟨y, hy⟩ : ∃ y, x = start + P.length + y := ⟨x - (start + P.length), by omega⟩
  have esh : ∀ (a b : Nat), a ≤ b → start + P.length + b ≤ T.length → seg T (start + P.length + a) (start + P.length + b) = seg t (stop + a) (stop + b) := fun a b hab hb => by
    unfold seg
    have e1 : (T.take (start + P.length + b)).drop (start + P.length + a) = (T.drop (start + P.length + a)).take (b - a) := by
      rw [List.drop_take]; congr 1; omega
    have e2 : (t.take (stop + b)).drop (stop + a) = (t.drop (stop + a)).take (b - a) := by
      rw [List.drop_take]; congr 1; omega
    rw [e1, e2, hdrop]
  have eB : stG stop (t.drop stop) = stG stop (seg t stop (stop + y)) ++ stG (stop + y) (seg t (stop + y) t.length) := by
    rw [← seg_end, stG_seg t (by omega : stop ≤ stop + y) (by omega) (Nat.le_refl _)]
  have eU : (stG (start + P.length) (seg T (start + P.length) x)).length = (stG stop (seg t stop (stop + y))).length := by
    rw [stG_count, stG_count, hy]
    have := esh 0 y (Nat.zero_le _) (by omega)
    rw [Nat.add_zero, Nat.add_zero] at this
    rw [this]
  have eD : ((stG stop (t.drop stop)).map (mAt rs t)).drop (stG (start + P.length) (seg T (start + P.length) x)).length = (stG (stop + y) (seg t (stop + y) t.length)).map (mAt rs t) := by
    rw [eB, List.map_append, eU]
    exact List.drop_left' (List.length_map ..)
  -- behind a match both ways are alike
  have tail : (stG x (seg T x T.length)).map (mAt rs T) = (stG (stop + y) (seg t (stop + y) t.length)).map (mAt rs t) ∧ (kdsOf rs T).drop e = (kdsOf rs t).drop (e + t.length - T.length) := by
    rcases hc with ⟨z1, z2⟩ | ⟨z1, z2, z3, z4⟩
    · have : stop + y = t.length := by omega
      rw [z1, z2, this, seg_self, seg_self]
      refine ⟨rfl, ?_⟩
      rw [List.drop_eq_nil_of_le (by omega), List.drop_eq_nil_of_le (by omega)]
    · have xT := (List.getElem?_eq_some_iff.mp z2).1
      have lnT := lnAt_succ z2
      have z5 : t[stop + y]? = some 10 := by
        have := congrArg (fun z => z[0]?) (hdrop y)
        simp only [List.getElem?_drop, Nat.add_zero] at this
        rw [← hy, z2] at this
        exact this.symm
      have lnt := lnAt_succ z5
      rw [eU, eB, List.map_append, List.getElem?_append_right (by rw [List.length_map]; exact Nat.le_refl _), List.length_map, Nat.sub_self] at z4
      have o1 : ∀ {w : List Nat} {i : Nat}, w[i]? = some 10 → stG i (seg w i w.length) = (i + 1) :: stG (i + 1) (seg w (i + 1) w.length) := fun {w i} hw => by
        have hi := (List.getElem?_eq_some_iff.mp hw).1
        rw [stG_seg w (Nat.le_succ i) hi (Nat.le_refl _), seg_one hw]; rfl
      have z6 : mAt rs t (stop + y + 1) = mAt rs T e := by
        rw [o1 z5] at z4
        exact Option.some.inj z4
      have e2 : T.drop (x + 1) = t.drop (stop + y + 1) := by rw [hy]; exact hdrop (y + 1)
      refine ⟨?_, ?_⟩
      · rw [o1 z2, o1 z5, List.map_cons, List.map_cons, z6, z1]
        congr 1
        rw [seg_end, seg_end, e2]
        obtain ⟨d1, hd1⟩ : ∃ d1, d1 = x + 1 := ⟨_, rfl⟩
        have f1 := stG_add (t.drop (stop + y + 1)) 0 (x + 1)
        have f2 := stG_add (t.drop (stop + y + 1)) 0 (stop + y + 1)
        rw [Nat.zero_add] at f1 f2
        rw [f1, f2, List.map_map, List.map_map]
        refine List.map_congr_left fun q hq => ?_
        have hq2 := stG_mem hq
        rw [List.length_drop] at hq2
        show mAt rs T (q + (x + 1)) = mAt rs t (q + (stop + y + 1))
        rw [(mAt_app ok nn lnT (show x + 1 ≤ q + (x + 1) by omega) (by omega)).1, (mAt_app ok nn lnt (show stop + y + 1 ≤ q + (stop + y + 1) by omega) (by omega)).1, z6, z1]
        have := esh (y + 1) (y + 1 + q) (by omega) (by omega)
        rw [show q + (x + 1) = start + P.length + (y + 1 + q) by omega, show x + 1 = start + P.length + (y + 1) by omega, this, show stop + (y + 1) = stop + y + 1 by omega, show stop + (y + 1 + q) = q + (stop + y + 1) by omega]
      · rw [z1, (kds_take ok nn lnT).2, show x + 1 + t.length - T.length = stop + y + 1 by omega, (kds_take ok nn lnt).2, e2, z6, z1]
  have he : e ≤ T.length := by
    rcases hc with ⟨z1, z2⟩ | ⟨z1, z2, _⟩
    · omega
    · have := (List.getElem?_eq_some_iff.mp z2).1; omega
  have hee : start + P.length ≤ e := by rcases hc with ⟨_, z⟩ | ⟨z, _⟩ <;> omega
  have hkb : (kdsOf rs T).take begin = (kdsOf rs t).take begin := by
    rw [(kds_take ok nn ln').1, (kds_take ok nn h.b2).1, htake b1]
  have hall : kdsOf rs T = (kdsOf rs t).take begin ++ (seg (kdsOf rs T) begin e ++ (kdsOf rs t).drop (e + t.length - T.length)) := by
    rw [← tail.2, ← hkb, ← List.append_assoc, ← seg_zero, ← seg_app (kdsOf rs T) (Nat.zero_le begin) (by omega : begin ≤ e) (by omega), seg_zero, List.take_append_drop]
  refine ⟨?_, hall, hee, he, rfl, fun k hk => ?_, fun k hk => ?_⟩
  · unfold mdsOf
    rw [eP, ← List.cons_append, List.map_append, List.map_append, m1, eD, tail.1, eM]
  · have : ((kdsOf rs T).take begin)[k]? = ((kdsOf rs t).take begin)[k]? := by rw [hkb]
    rw [List.getElem?_take, List.getElem?_take, if_pos hk, if_pos hk] at this
    exact this
  · have : ((kdsOf rs T).drop e)[k - e]? = ((kdsOf rs t).drop (e + t.length - T.length))[k - e]? := by rw [tail.2]
    rw [List.getElem?_drop, List.getElem?_drop, show e + (k - e) = k by omega] at this
    rw [this]
    congr 1
    omega
end
end Vf

set_option maxRecDepth 100000
set_option maxHeartbeats 4000000
namespace Vf
open PySem PySem.Spec PyProof.Rows L2 SX
section
variable {P : Program} {w : World} {K : PySem.W.Frag} {mg : Str → Option Value} {base : Heap}
/-! ### the reader's ways are the function's -/
def toMd (m : Int × Int × Int) : Md := if m = (-1, 0, 0) then none else some (m.1.toNat, m.2.1.toNat, decide (m.2.2 = 1))
theorem toMd_in {n d : Nat} {e : Int} : toMd ((n : Int), (d : Int), e) = some (n, d, decide (e = 1)) := by
  unfold toMd
  rw [if_neg (fun z => by have : (n : Int) = -1 := congrArg Prod.fst z; omega)]
  rfl
theorem toMd_code : toMd (-1, 0, 0) = none := rfl
structure FdG (fs : List Fd) : Prop where
  ts : FdTs fs
  ok : ∀ f ∈ fs, RuOk (ruOf f)
  ln : ∀ f ∈ fs, f.cl = "" → f.ln = true
  nd : ∀ (i j : Nat) (f g : Fd), fs[i]? = some f → fs[j]? = some g → f.op = g.op → i = j
  nl : ∀ f ∈ fs, 10 ∉ TL.tl f.op ∧ 10 ∉ TL.tl f.cl
theorem FdG.okR {fs : List Fd} (h : FdG fs) : ∀ r ∈ fs.map ruOf, RuOk r := fun r hr => by
  obtain ⟨f, hf, rfl⟩ := List.mem_map.mp hr
  exact h.ok f hf
theorem FdG.nn {fs : List Fd} (h : FdG fs) : NoNl (fs.map ruOf) := fun r hr => by
  obtain ⟨f, hf, rfl⟩ := List.mem_map.mp hr
  exact h.nl f hf
theorem mode_ok {fs : List Fd} {m : Int × Int × Int} (h : ModeOk fs m) : OkMd (fs.map ruOf) (toMd m) := by
  rcases h with rfl | ⟨n, d, e, hn, hd, _, rfl⟩
  · trivial
  · rw [toMd_in]; exact ⟨by rw [List.length_map]; exact hn, hd⟩
theorem kOf_map {fs : List Fd} {n : Nat} {f : Fd} (h : fs[n]? = some f) : kOf (fs.map ruOf) n = (TL.tl f.k).headD 0 := by
  unfold kOf; rw [List.getElem?_map, h]; rfl
theorem pm_mode {f : Fd} {n d : Nat} (hd : 1 ≤ d) {k : Str × Int × Int × Int} (h : k ∈ pmL f.op f.cl f.nd f.db n d) : k.2 = (-1, 0, 0) ∨ ∃ d' : Nat, 1 ≤ d' ∧ k.2 = ((n : Int), (d' : Int), 0) := by
  unfold pmL at h
  rcases List.mem_append.mp h with z | z
  · split at z
    · rw [List.mem_singleton.mp z]
      by_cases c : 1 < d
      · rw [if_pos c]; exact .inr ⟨d - 1, by omega, by show ((n : Int), (d : Int) - 1, (0 : Int)) = _; rw [show (d : Int) - 1 = ((d - 1 : Nat) : Int) by omega]⟩
      · rw [if_neg c]; exact .inl rfl
    · cases z
  · rcases List.mem_append.mp z with z | z
    · split at z
      · rw [List.mem_singleton.mp z]; exact .inr ⟨d + 1, by omega, rfl⟩
      · cases z
    · split at z
      · rw [List.mem_singleton.mp z]; exact .inr ⟨d, hd, rfl⟩
      · cases z
theorem step_mode {fs : List Fd} {f : Fd} {n d : Nat} {t : List Nat} {m' : Int × Int × Int} {w : Nat} {kd : Str} (hf : fs[n]? = some f) (hes : S (t.take 1) ≠ f.es) (h : StepR fs ((n : Int), (d : Int), 0) t m' w kd) : m' = (-1, 0, 0) ∨ ∃ d' : Nat, 1 ≤ d' ∧ m' = ((n : Int), (d' : Int), 0) := by
  rcases h with ⟨z, _⟩ | ⟨n2, d2, g, hg, rfl, hd1, hd2, h⟩
  · have : (n : Int) = -1 := congrArg Prod.fst z
    omega
  · rcases h with ⟨z, _⟩ | ⟨z, ze, _⟩ | ⟨z, _, h⟩
    · have : (0 : Int) = 1 := congrArg (fun x : Int × Int × Int => x.2.2) z
      omega
    · have e1 : (n : Int) = (n2 : Int) := congrArg Prod.fst z
      have e2 : n = n2 := by omega
      subst e2
      rw [hf] at hg
      cases hg
      exact absurd ze hes
    · have e1 : (n : Int) = (n2 : Int) := congrArg Prod.fst z
      have e2 : n = n2 := by omega
      have e3 : (d : Int) = (d2 : Int) := congrArg (fun x : Int × Int × Int => x.2.1) z
      have e4 : d = d2 := by omega
      subst e2
      subst e4
      rw [hf] at hg
      cases hg
      rcases h with ⟨k, ⟨k1, _, _⟩, rfl, _⟩ | ⟨_, ⟨_, _, rfl, _⟩ | ⟨_, rfl, _⟩⟩
      · exact pm_mode hd1 k1
      · exact .inl rfl
      · exact .inr ⟨d, hd1, rfl⟩
theorem step_next {fs : List Fd} (G : FdG fs) {m m' : Int × Int × Int} {t : List Nat} {w : Nat} {kd : Str} (hm : ModeOk fs m) (ht : t ≠ []) (h : StepR fs m t m' w kd) : nextM (fs.map ruOf) (toMd m) t = (toMd m', w, (TL.tl kd).headD 0) := by
  rcases hm with rfl | ⟨n, d, e, hn, hd, hd2, rfl⟩
  · rcases open_law G.nd h with ⟨e1, rfl, rfl, rfl⟩ | ⟨n, f, hf, e1, e2, rfl, rfl⟩
    · show nextO _ (openL (fs.map ruOf) t) = _
      rw [e1]
      exact congrArg (fun z => (none, 1, z)) (by decide +kernel)
    · show nextO _ (openL (fs.map ruOf) t) = _
      rw [e1, show (1 : Int) = ((1 : Nat) : Int) from rfl, toMd_in, ← kOf_map hf]
      rfl
  · have hf : fs[n]? = some fs[n] := List.getElem?_eq_getElem hn
    generalize fs[n] = f at hf
    have hfm := List.mem_of_getElem? hf
    cases e with
    | true =>
      rcases h with ⟨z, _⟩ | ⟨n2, d2, g, hg, rfl, hd1, hd3, h⟩
      · have : (n : Int) = -1 := congrArg Prod.fst z
        omega
      · rcases h with ⟨z, rfl, rfl⟩ | ⟨z, _⟩ | ⟨z, _⟩
        · have e1 : (n : Int) = (n2 : Int) := congrArg Prod.fst z
          have e2 : n = n2 := by omega
          have e3 : (d : Int) = (d2 : Int) := congrArg (fun x : Int × Int × Int => x.2.1) z
          have e4 : d = d2 := by omega
          subst e2
          subst e4
          rw [← kOf_map hg, if_pos rfl, toMd_in, toMd_in]
          rfl
        · have : (1 : Int) = 0 := congrArg (fun x : Int × Int × Int => x.2.2) z
          omega
        · have : (1 : Int) = 0 := congrArg (fun x : Int × Int × Int => x.2.2) z
          omega
    | false =>
      rw [if_neg Bool.false_ne_true] at h ⊢
      have hfr : (fs.map ruOf)[n]? = some (ruOf f) := by rw [List.getElem?_map, hf]; rfl
      rw [toMd_in, show decide ((0 : Int) = 1) = false from rfl, nextM_in hfr]
      have ht1 : t.take 1 ≠ [] := fun z => ht (by
        cases t with
        | nil => rfl
        | cons a b => cases z)
      by_cases hes : S (t.take 1) = f.es
      · have hc : (ruOf f).e ≠ [] ∧ t.take 1 = (ruOf f).e := by
          have : TL.tl f.es = t.take 1 := by rw [← hes, TL.tl_mk]
          exact ⟨by rw [show (ruOf f).e = TL.tl f.es from rfl, this]; exact ht1, this.symm⟩
        rw [if_pos hc]
        rcases h with ⟨z, _⟩ | ⟨n2, d2, g, hg, rfl, hd1, hd3, h⟩
        · have : (n : Int) = -1 := congrArg Prod.fst z
          omega
        · rcases h with ⟨z, rfl, rfl⟩ | ⟨z, _, rfl, rfl⟩ | ⟨z, ze, _⟩
          · have : (0 : Int) = 1 := congrArg (fun x : Int × Int × Int => x.2.2) z
            omega
          · have e1 : (n : Int) = (n2 : Int) := congrArg Prod.fst z
            have e2 : n = n2 := by omega
            have e3 : (d : Int) = (d2 : Int) := congrArg (fun x : Int × Int × Int => x.2.1) z
            have e4 : d = d2 := by omega
            subst e2
            subst e4
            rw [← kOf_map hg, toMd_in]
            rfl
          · have e1 : (n : Int) = (n2 : Int) := congrArg Prod.fst z
            have e2 : n = n2 := by omega
            subst e2
            rw [hf] at hg; cases hg
            exact absurd hes ze
      · have hc : ¬ ((ruOf f).e ≠ [] ∧ t.take 1 = (ruOf f).e) := fun z => hes (by rw [z.2]; exact S_tl f.es)
        rw [if_neg hc]
        obtain ⟨rfl, e1⟩ := step_law (G.ok f hfm) (G.ln f hfm) hf hes h
        rw [e1, kOf_map hf]
        rcases step_mode hf hes h with rfl | ⟨d', h1, rfl⟩
        · rfl
        · rw [depM_nat, toMd_in]
          dsimp only
          rw [if_neg (show ¬ d' = 0 by omega)]
          rfl
theorem one_tl {kd : Str} (h : kd.length = 1) : TL.tl kd = [(TL.tl kd).headD 0] := by
  have : (TL.tl kd).length = 1 := by rw [← TL.len_tl]; exact h
  match e : TL.tl kd, this with
  | [c], _ => rfl
theorem repL_one (c : Nat) : ∀ w : Nat, repL w [c] = List.replicate w c
  | 0 => rfl
  | w + 1 => by
    show [c] ++ repL w [c] = _
    rw [repL_one c w]; rfl
theorem reach_rd {fs : List Fd} (G : FdG fs) {t : List Nat} {en : Bool} {m0 m : Int × Int × Int} {pl : Nat} {ks : List Nat} (h0 : ModeOk fs m0) (h : Reach fs t en m0 m pl ks) : pl ≤ t.length ∧ ModeOk fs m ∧ rdM (fs.map ruOf) (toMd m0) t = ((rdM (fs.map ruOf) (toMd m) (t.drop pl)).1, ks ++ (rdM (fs.map ruOf) (toMd m) (t.drop pl)).2) := by
  induction h with
  | start => exact ⟨Nat.zero_le _, h0, by rw [List.drop_zero]; rfl⟩
  | @step m m' pl w ks kd h1 hlt hst hbg ih =>
    obtain ⟨i1, i2, i3⟩ := ih
    have hne : t.drop pl ≠ [] := fun z => by
      have := List.drop_eq_nil_iff.mp z
      omega
    obtain ⟨o1, o2, o3, o4⟩ := step_on G.ts.t hst hne i2
    rw [List.length_drop] at o1
    refine ⟨by omega, o2, ?_⟩
    rw [i3, rdM_step G.okR hne (mode_ok i2), step_next G i2 hne hst, List.drop_drop, one_tl o4, repL_one]
    dsimp only
    rw [List.append_assoc]
    rfl
/-- a text read to its end -/
theorem reach_end {fs : List Fd} (G : FdG fs) {t : List Nat} {en : Bool} {m0 m : Int × Int × Int} {ks : List Nat} (h0 : ModeOk fs m0) (h : Reach fs t en m0 m t.length ks) : rdM (fs.map ruOf) (toMd m0) t = (toMd m, ks) := by
  have := (reach_rd G h0 h).2.2
  rw [List.drop_length, rdM_nil] at this
  rw [this, List.append_nil]
/-- at the end of a line nothing has to wait -/
theorem line_told {fs : List Fd} (G : FdG fs) {m : Int × Int × Int} {t : List Nat} (h10 : 10 ∈ t) : ¬ BegAt fs m t := by
  have no : ∀ {mk : List Nat}, 10 ∉ mk → ¬ Sw t mk := fun h ⟨r, e⟩ => h (by rw [e]; exact List.mem_append_left _ h10)
  rintro (⟨_, k, hk, _, hs⟩ | ⟨n, d, f, hf, _, _, k, hk, _, hs⟩)
  · obtain ⟨n, f, hf, rfl⟩ := opL_mem hk
    exact no (G.nl f (List.mem_of_getElem? hf)).1 hs
  · have g := G.nl f (List.mem_of_getElem? hf)
    unfold pmL at hk
    rcases List.mem_append.mp hk with z | z
    · split at z
      · rw [List.mem_singleton.mp z] at hs; exact no g.2 hs
      · cases z
    · rcases List.mem_append.mp z with z | z
      · split at z
        · rw [List.mem_singleton.mp z] at hs; exact no g.1 hs
        · cases z
      · split at z
        · rw [List.mem_singleton.mp z] at hs
          have hs2 : Sw t (TL.tl (S (repL 2 (TL.tl f.cl)))) := hs
          rw [TL.tl_mk] at hs2
          refine no (fun y => ?_) hs2
          have e : repL 2 (TL.tl f.cl) = TL.tl f.cl ++ (TL.tl f.cl ++ []) := rfl
          rw [e] at y
          rcases List.mem_append.mp y with y | y
          · exact g.2 y
          · rcases List.mem_append.mp y with y | y
            · exact g.2 y
            · cases y
        · cases z

end
end Vf

set_option maxRecDepth 100000
set_option maxHeartbeats 4000000
namespace Vf
open PySem PySem.Spec PyProof.Rows L2 SX
section
variable {P : Program} {w : World} {K : PySem.W.Frag} {mg : Str → Option Value} {base : Heap}
/-! ### right rules, as the reader has them -/
def fdR (r : Rr) : Fd := ⟨⟨#[if r.k = "remark" then 114 else 113]⟩, r.o, r.c, r.d, r.e, r.db, decide (r.c = "") || r.ln⟩
def ruR (r : Rr) : Ru := ruOf (fdR r)
theorem fd_words {r : Rr} (h : RrOk r) : fdOf (wordsOf r) = fdR r := by
  obtain ⟨e1, e2, e3, e4, e5⟩ := of_words h
  have e6 : lnOf (wordsOf r) = (decide (r.c = "") || r.ln) := e5
  show (⟨⟨#[k0Of (wordsOf r)]⟩, (wordsOf r).getD 1 "", cOf (wordsOf r), dOf (wordsOf r), eOf (wordsOf r), decide (("doubled" : Str) ∈ (wordsOf r).drop 4), lnOf (wordsOf r)⟩ : Fd) = fdR r
  rw [e1, e2, e3, e4, e6]
  rfl
theorem fds_lines {qs : List Rr} (h : ∀ r ∈ qs, RrOk r) : fdsOf (qs.map lineOf) = qs.map fdR := by
  unfold fdsOf
  rw [List.map_map]
  refine List.map_congr_left fun r hr => ?_
  show fdOf (spS (lineOf r)) = _
  rw [spS_line (h r hr), fd_words (h r hr)]
theorem mk_tl {w : Str} (h : isMk w = true) : 1 ≤ (TL.tl w).length ∧ (TL.tl w).length ≤ 4 ∧ 10 ∉ TL.tl w := by
  have := mk_len h
  rw [TL.len_tl] at this
  exact ⟨this.1, this.2, fun z => ((mk_good h).2 10 z).1 rfl⟩
theorem nodup_at {α β : Type} {f : α → β} : ∀ {l : List α}, (l.map f).Nodup → ∀ (i j : Nat) (a b : α), l[i]? = some a → l[j]? = some b → f a = f b → i = j
  | [], _, _, _, _, _, h, _, _ => by cases h
  | x :: l, hn, 0, 0, _, _, _, _, _ => rfl
  | x :: l, hn, 0, j + 1, a, b, h1, h2, e => by
    rw [List.map_cons, List.nodup_cons] at hn
    cases h1
    exact absurd (by rw [e]; exact List.mem_map_of_mem (List.mem_of_getElem? h2)) hn.1
  | x :: l, hn, i + 1, 0, a, b, h1, h2, e => by
    rw [List.map_cons, List.nodup_cons] at hn
    cases h2
    exact absurd (by rw [← e]; exact List.mem_map_of_mem (List.mem_of_getElem? h1)) hn.1
  | x :: l, hn, i + 1, j + 1, a, b, h1, h2, e => by
    rw [List.map_cons, List.nodup_cons] at hn
    exact congrArg (· + 1) (nodup_at hn.2 i j a b h1 h2 e)
theorem fdG_of {qs : List Rr} (h : ∀ r ∈ qs, RrOk r) (nd : (qs.map Rr.o).Nodup) (hl : qs.length ≤ 8) : FdG (qs.map fdR) := by
  have el : ∀ {r : Rr}, RrOk r → r.e.length ≤ 1 := fun {r} z => z.he.elim (fun y => by rw [y]; decide +kernel) fun y => by rw [y.2]; exact Nat.le_refl _
  have cl : ∀ {r : Rr}, RrOk r → r.c.length ≤ 4 := fun {r} z => z.hc.elim (fun y => by rw [y]; decide +kernel) fun y => (mk_len y).2
  have c10 : ∀ {r : Rr}, RrOk r → 10 ∉ TL.tl r.c := fun {r} z => z.hc.elim (fun y => by rw [y]; decide +kernel) fun y => (mk_tl y).2.2
  have dn : ∀ {r : Rr}, RrOk r → r.d ≤ 4 := fun {r} z => by rcases z.hd with y | ⟨y, _⟩ <;> omega
  refine ⟨⟨fun f hf => ?_, fun f hf => ?_, by rw [List.length_map]; omega⟩, fun f hf => ?_, fun f hf => ?_, fun i j f g h1 h2 e => ?_, fun f hf => ?_⟩
  · obtain ⟨r, hr, rfl⟩ := List.mem_map.mp hf
    have o := h r hr
    exact ⟨(mk_len o.ho).1, o.hb, el o, dn o, rfl⟩
  · obtain ⟨r, hr, rfl⟩ := List.mem_map.mp hf
    have o := h r hr
    have := (mk_len o.ho).2
    have := cl o
    exact ⟨el o, dn o, by show r.o.length ≤ 50; omega, by show r.c.length ≤ 50; omega⟩
  · obtain ⟨r, hr, rfl⟩ := List.mem_map.mp hf
    have o := h r hr
    refine ⟨(mk_tl o.ho).1, fun z => ⟨?_, fun y => o.hb z (tl_nil.mp y)⟩, fun z => ?_, ?_⟩
    · show r.d = 0
      rcases o.hd with y | y
      · exact y
      · have : r.db = true := z
        rw [y.2.2.2.2] at this; cases this
    · have z : 0 < r.d := z
      rcases o.hd with y | y
      · omega
      · exact ⟨fun x => y.2.2.1 (tl_nil.mp x), fun x => y.2.2.2.1 (TL.ext_tl x)⟩
    · show (TL.tl r.e).length ≤ 1
      rw [← TL.len_tl]; exact el o
  · obtain ⟨r, hr, rfl⟩ := List.mem_map.mp hf
    intro z
    have z : r.c = "" := z
    show (decide (r.c = "") || r.ln) = true
    rw [decide_eq_true z]; rfl
  · rw [List.getElem?_map] at h1 h2
    obtain ⟨r, hr, rfl⟩ := Option.map_eq_some_iff.mp h1
    obtain ⟨p, hp, rfl⟩ := Option.map_eq_some_iff.mp h2
    exact nodup_at nd i j r p hr hp e
  · obtain ⟨r, hr, rfl⟩ := List.mem_map.mp hf
    have o := h r hr
    exact ⟨(mk_tl o.ho).2.2, c10 o⟩
theorem ruR_map (qs : List Rr) : (qs.map fdR).map ruOf = qs.map ruR := by rw [List.map_map]; rfl
/-- the tongue of right rules -/
def tongueT (qs : List Rr) : Str := Txt.join ("\n" : Str) (qs.map lineOf)
theorem wd_good {r : Rr} (h : RrOk r) : ∀ l ∈ wordsOf r, GoodS 8 l := words_all (Pz := fun l => GoodS 8 l) (by
  have : ((["remark", "quote", "to", "line", "nested", "escape", "doubled", "2", "3", "4"] : List Str).all fun z => decide (z.length ≤ 8) && (TL.tl z).all fun c => decide (c ≠ 10 ∧ c < 1000)) = true := by decide +kernel
  intro z hz
  have := List.all_eq_true.mp this z hz
  rw [Bool.and_eq_true] at this
  exact ⟨of_decide_eq_true this.1, fun c hc => of_decide_eq_true (List.all_eq_true.mp this.2 c hc)⟩) (fun m => mk_good m) h
theorem line_good {r : Rr} (h : RrOk r) : GoodS 100 (lineOf r) := by
  refine ⟨?_, fun c hc => ?_⟩
  · unfold lineOf
    have := joinL_len (s := TL.tl (" " : Str)) (b := 8) (ls := (wordsOf r).map TL.tl) fun l hl => by
      obtain ⟨w, hw, rfl⟩ := List.mem_map.mp hl
      rw [← TL.len_tl]; exact (wd_good h w hw).1
    rw [TL.len_tl, tl_joinS]
    have wl := words_len (r := r)
    rw [List.length_map, show (TL.tl (" " : Str)).length = 1 by decide +kernel] at this
    omega
  · unfold lineOf at hc
    rw [tl_joinS] at hc
    rcases joinL_mem hc with z | ⟨l, hl, z⟩
    · rw [show TL.tl (" " : Str) = [32] by decide +kernel] at z
      rw [List.mem_singleton.mp z]
      exact ⟨by decide, by decide⟩
    · obtain ⟨w, hw, rfl⟩ := List.mem_map.mp hl
      exact (wd_good h w hw).2 c z
theorem tongue_len {qs : List Rr} (h : ∀ r ∈ qs, RrOk r) (hl : qs.length ≤ 8) : (tongueT qs).length ≤ 1000 := by
  unfold tongueT
  have := joinL_len (s := TL.tl ("\n" : Str)) (b := 100) (ls := (qs.map lineOf).map TL.tl) fun l hl => by
    obtain ⟨w, hw, rfl⟩ := List.mem_map.mp hl
    obtain ⟨r, hr, rfl⟩ := List.mem_map.mp hw
    rw [← TL.len_tl]; exact (line_good (h r hr)).1
  rw [TL.len_tl, tl_joinS]
  rw [List.length_map, List.length_map, show (TL.tl ("\n" : Str)).length = 1 by decide +kernel] at this
  omega
theorem tongue_lns {qs : List Rr} (h : ∀ r ∈ qs, RrOk r) (h1 : 1 ≤ qs.length) : lnsOf (tongueT qs) = qs.map lineOf := by
  have hne : qs.map lineOf ≠ [] := fun z => by rw [List.map_eq_nil_iff] at z; rw [z] at h1; cases h1
  have hj := lns_join hne fun l hl c hc => by
    obtain ⟨r, hr, rfl⟩ := List.mem_map.mp hl
    exact ((line_good (h r hr)).2 c hc).1
  unfold lnsOf tongueT
  rw [hj, if_neg]
  intro z
  have e : (Txt.split ("" : Str) ("\n" : Str)) = ([""] : List Str) := by decide +kernel
  rw [z, e] at hj
  match qs, h1 with
  | [r], _ =>
    have hr : lineOf r = "" := (List.cons.inj hj).1.symm
    have w := spS_line (h r (.head _))
    rw [hr] at w
    have e2 : (spS "").length = 1 := by decide +kernel
    have e3 : 4 ≤ (wordsOf r).length := by unfold wordsOf; rw [List.length_append]; exact Nat.le_add_right _ _
    rw [← w, e2] at e3
    omega
  | r :: p :: q, _ =>
    have := congrArg List.length hj
    simp at this

end
end Vf

set_option maxRecDepth 100000
set_option maxHeartbeats 4000000
namespace Vf
open PySem PySem.Spec PyProof.Rows L2 SX
section
variable {P : Program} {w : World} {K : PySem.W.Frag} {mg : Str → Option Value} {base : Heap}
/-! ### where line feeds stand -/
theorem sub_one {t : List Nat} {c i : Nat} (hi : i + 1 ≤ t.length) : PySem.Builtin.Str.subAt (S t) (S [c]) i = decide (t[i]? = some c) := by
  rw [PySem.StrLaws.subAt_eq]
  have e1 : (S t).cps.toList = t := rfl
  have e2 : (S [c]).cps.toList = [c] := rfl
  have e3 : (S [c]).length = 1 := rfl
  rw [e1, e2, e3, List.drop_eq_getElem_cons (by omega), List.getElem?_eq_getElem (by omega)]
  show ([t[i]] == [c]) = _
  by_cases h : t[i] = c
  · rw [h]; simp
  · rw [decide_eq_false (fun z => h (Option.some.inj z))]
    exact beq_eq_false_iff_ne.mpr fun z => h (List.cons.inj z).1
theorem occ_fold {t : List Nat} {c hi lim : Nat} (hl : hi ≤ t.length) : ∀ (l : List Nat) (st : Array Nat × Nat), l.Pairwise (· < ·) → (∀ i ∈ l, st.2 ≤ i) → ((forIn l st (PySem.StrLaws.occBody (S t) (S [c]) hi lim)) : Id (Array Nat × Nat)).run.fst.toList = st.1.toList ++ ((l.filter fun i => decide (i + 1 ≤ hi) && decide (t[i]? = some c)).take (lim - st.1.size))
  | [], st, _, _ => by simp
  | i :: l, st, hp, hf => by
    rw [List.pairwise_cons] at hp
    rw [List.forIn_cons]
    unfold PySem.StrLaws.occBody
    have hfi := hf i (.head _)
    have e1 : (S [c]).length = 1 := rfl
    by_cases h1 : i + 1 ≤ hi
    · by_cases h2 : t[i]? = some c
      · have hs : PySem.Builtin.Str.subAt (S t) (S [c]) i = true := by rw [sub_one (by omega), decide_eq_true h2]
        rw [List.filter_cons_of_pos (by rw [decide_eq_true h1, decide_eq_true h2]; rfl)]
        by_cases h3 : st.1.size < lim
        · rw [if_pos ⟨⟨⟨h3, hfi⟩, by rw [e1]; exact h1⟩, hs⟩]
          have := occ_fold (c := c) (lim := lim) hl l (st.1.push i, i + (S [c]).length) hp.2 (fun j hj => by have := hp.1 j hj; show i + 1 ≤ j; omega)
          refine this.trans ?_
          rw [Array.toList_push, Array.size_push, List.append_assoc, show lim - st.1.size = (lim - (st.1.size + 1)) + 1 by omega]
          rfl
        · rw [if_neg (fun z => h3 z.1.1.1)]
          have := occ_fold (c := c) (lim := lim) hl l (st.1, st.2) hp.2 (fun j hj => hf j (.tail _ hj))
          refine this.trans ?_
          rw [show lim - st.1.size = 0 by omega, List.take_zero, List.take_zero]
      · rw [if_neg (fun z => h2 (by have := z.2; rw [sub_one (by omega)] at this; exact of_decide_eq_true this)), List.filter_cons_of_neg (by rw [decide_eq_false h2, Bool.and_false]; exact Bool.false_ne_true)]
        exact occ_fold hl l (st.1, st.2) hp.2 (fun j hj => hf j (.tail _ hj))
    · rw [if_neg (fun z => h1 (by have := z.1.2; rw [e1] at this; exact this)), List.filter_cons_of_neg (by rw [decide_eq_false h1, Bool.false_and]; exact Bool.false_ne_true)]
      exact occ_fold hl l (st.1, st.2) hp.2 (fun j hj => hf j (.tail _ hj))
def hits (t : List Nat) (c lo hi : Nat) : List Nat := (List.range' lo (hi + 1 - lo)).filter fun i => decide (i + 1 ≤ hi) && decide (t[i]? = some c)
theorem occ_one {t : List Nat} {c lo hi lim : Nat} (hl : hi ≤ t.length) : PySem.Builtin.Str.occurrences (S t) (S [c]) lo hi lim = (hits t c lo hi).take lim := by
  rw [PySem.StrLaws.occ_eq]
  have := occ_fold (c := c) (lim := lim) hl (List.range' lo (hi + 1 - lo)) (#[], lo) (List.pairwise_lt_range') (fun i hi => by rw [List.mem_range'_1] at hi; exact hi.1)
  refine this.trans ?_
  simp [hits]
theorem mem_hits {t : List Nat} {c lo hi i : Nat} : i ∈ hits t c lo hi ↔ lo ≤ i ∧ i < hi ∧ t[i]? = some c := by
  unfold hits
  rw [List.mem_filter, List.mem_range'_1, Bool.and_eq_true, decide_eq_true_eq, decide_eq_true_eq]
  constructor
  · rintro ⟨⟨a, b⟩, d, e⟩; exact ⟨a, by omega, e⟩
  · rintro ⟨a, b, e⟩; exact ⟨⟨a, by omega⟩, by omega, e⟩
theorem hits_sorted (t : List Nat) (c lo hi : Nat) : (hits t c lo hi).Pairwise (· < ·) := List.Pairwise.filter _ List.pairwise_lt_range'
theorem nl_S : ("\n" : Str) = S [10] := by decide +kernel
theorem find_nl {t : List Nat} {p : Nat} (hp : p ≤ t.length) : (Txt.find3 (S t) ("\n" : Str) (p : Int) = -1 ∧ 10 ∉ t.drop p) ∨ ∃ i : Nat, Txt.find3 (S t) ("\n" : Str) (p : Int) = (i : Int) ∧ p ≤ i ∧ t[i]? = some 10 ∧ ∀ j, p ≤ j → j < i → t[j]? ≠ some 10 := by
  unfold Txt.find3
  rw [from_nat, nl_S, S_len, occ_one (Nat.le_refl _)]
  have hs := hits_sorted t 10 p t.length
  have hm := @mem_hits t 10 p t.length
  generalize hits t 10 p t.length = l at hs hm
  cases l with
  | nil =>
    refine .inl ⟨rfl, fun z => ?_⟩
    obtain ⟨j, hj⟩ := List.mem_iff_getElem?.mp z
    rw [List.getElem?_drop] at hj
    have := (List.getElem?_eq_some_iff.mp hj).1
    have := (hm (i := p + j)).mpr ⟨by omega, by omega, hj⟩
    cases this
  | cons i l =>
    obtain ⟨a, b, e⟩ := hm.mp (List.Mem.head _)
    refine .inr ⟨i, rfl, a, e, fun j h1 h2 z => ?_⟩
    have := hm.mpr ⟨h1, by omega, z⟩
    rcases List.mem_cons.mp this with rfl | h
    · omega
    · have := (List.pairwise_cons.mp hs).1 j h
      omega
theorem count_range (t : List Nat) (c : Nat) : ∀ (s lo : Nat), lo + s ≤ t.length → ((List.range' lo s).filter fun i => decide (t[i]? = some c)).length = ((t.drop lo).take s).count c
  | 0, _, _ => by simp
  | s + 1, lo, h => by
    have hd : t.drop lo = t[lo] :: t.drop (lo + 1) := List.drop_eq_getElem_cons (by omega)
    rw [List.range'_succ, hd, List.take_succ_cons, List.count_cons, List.filter_cons, List.getElem?_eq_getElem (by omega)]
    have ih := count_range t c s (lo + 1) (by omega)
    by_cases e : t[lo] = c
    · rw [if_pos (decide_eq_true (congrArg some e)), List.length_cons, ih, if_pos (by simp [e])]
    · rw [if_neg (by simp [e]), ih, if_neg (by simp [e])]; rfl
theorem to_nat {n k : Nat} (h : k ≤ n) : toIndexW n (k : Int) = k := by
  unfold toIndexW
  rw [if_neg (by omega)]
  omega
theorem count_nl {t : List Nat} {s : Nat} (hs : s ≤ t.length) : Txt.countIn (S t) ("\n" : Str) 0 (s : Int) = (((t.take s).count 10 : Nat) : Int) := by
  unfold Txt.countIn
  rw [show (0 : Int) = ((0 : Nat) : Int) from rfl, from_nat, nl_S, S_len, to_nat hs, occ_one hs]
  have e : hits t 10 0 s = (List.range' 0 s).filter fun i => decide (t[i]? = some 10) := by
    unfold hits
    rw [Nat.sub_zero, List.range'_1_concat, List.filter_append]
    have e1 : ([0 + s].filter fun i => decide (i + 1 ≤ s) && decide (t[i]? = some 10)) = [] := by
      rw [List.filter_cons_of_neg (by rw [decide_eq_false (by omega), Bool.false_and]; exact Bool.false_ne_true)]; rfl
    rw [e1, List.append_nil]
    refine List.filter_congr fun i hi => ?_
    rw [List.mem_range'_1] at hi
    rw [decide_eq_true (show i + 1 ≤ s by omega), Bool.true_and]
  have c := count_range t 10 s 0 (by omega)
  rw [List.drop_zero] at c
  rw [e, List.take_of_length_le (Nat.le_trans (List.length_filter_le ..) (by rw [List.length_range']; omega)), c]
theorem last_fold {t : List Nat} {c hi : Nat} (hl : hi ≤ t.length) : ∀ (l : List Nat) (st : Option Nat), ((forIn l st fun i (last : Option Nat) => (if (decide (i + (S [c]).length ≤ hi) && PySem.Builtin.Str.subAt (S t) (S [c]) i) = true then pure (ForInStep.yield (some i)) else pure (ForInStep.yield last) : Id (ForInStep (Option Nat)))) : Id (Option Nat)).run = ((l.filter fun i => decide (i + 1 ≤ hi) && decide (t[i]? = some c)).getLast?).or st
  | [], st => by simp
  | i :: l, st => by
    rw [List.forIn_cons]
    have e1 : (S [c]).length = 1 := rfl
    have key : (decide (i + (S [c]).length ≤ hi) && PySem.Builtin.Str.subAt (S t) (S [c]) i) = (decide (i + 1 ≤ hi) && decide (t[i]? = some c)) := by
      rw [e1]
      by_cases h : i + 1 ≤ hi
      · rw [sub_one (by omega)]
      · rw [decide_eq_false h, Bool.false_and, Bool.false_and]
    rw [key]
    by_cases h : (decide (i + 1 ≤ hi) && decide (t[i]? = some c)) = true
    · rw [if_pos h, List.filter_cons_of_pos (p := fun i => decide (i + 1 ≤ hi) && decide (t[i]? = some c)) h]
      refine (last_fold hl l (some i)).trans ?_
      rw [List.getLast?_cons]
      cases (l.filter fun i => decide (i + 1 ≤ hi) && decide (t[i]? = some c)).getLast? <;> rfl
    · rw [if_neg h, List.filter_cons_of_neg (p := fun i => decide (i + 1 ≤ hi) && decide (t[i]? = some c)) h]
      exact last_fold hl l st
theorem last_one {t : List Nat} {c lo hi : Nat} (hl : hi ≤ t.length) : PySem.Builtin.Str.lastOccurrence (S t) (S [c]) lo hi = (hits t c lo hi).getLast? := by
  have := last_fold (c := c) hl (List.range' lo (hi + 1 - lo)) none
  rw [Option.or_none] at this
  refine Eq.trans ?_ this
  unfold PySem.Builtin.Str.lastOccurrence
  simp
theorem rfind_nl {t : List Nat} {s : Nat} (hs : s ≤ t.length) : ∃ b : Nat, Txt.rfindIn (S t) ("\n" : Str) 0 (s : Int) + 1 = (b : Int) ∧ b ≤ s ∧ LnAt t b ∧ 10 ∉ seg t b s := by
  unfold Txt.rfindIn
  rw [show (0 : Int) = ((0 : Nat) : Int) from rfl, from_nat, nl_S, S_len, to_nat hs, last_one hs]
  have hs2 := hits_sorted t 10 0 s
  have hm := @mem_hits t 10 0 s
  generalize hits t 10 0 s = l at hs2 hm
  cases e : l.getLast? with
  | none =>
    refine ⟨0, rfl, Nat.zero_le _, lnAt_zero t, fun z => ?_⟩
    obtain ⟨i, a, b, c⟩ := seg_mem z
    have := hm.mpr ⟨a, b, c⟩
    rw [List.getLast?_eq_none_iff.mp e] at this; cases this
  | some i =>
    obtain ⟨ys, rfl⟩ := List.getLast?_eq_some_iff.mp e
    obtain ⟨a, b, c⟩ := hm.mp (List.mem_append_right _ (List.mem_singleton.mpr rfl))
    refine ⟨i + 1, rfl, b, lnAt_succ c, fun z => ?_⟩
    obtain ⟨j, a2, b2, c2⟩ := seg_mem z
    have := hm.mpr ⟨Nat.zero_le j, b2, c2⟩
    rcases List.mem_append.mp this with h | h
    · have := (List.pairwise_append.mp hs2).2.2 j h i (List.mem_singleton.mpr rfl)
      omega
    · rw [List.mem_singleton] at h
      omega

end
end Vf

set_option maxRecDepth 100000
set_option maxHeartbeats 4000000
namespace Vf
open PySem PySem.Spec PyProof.Rows L2 SX
section
variable {P : Program} {w : World} {K : PySem.W.Frag} {mg : Str → Option Value} {base : Heap}
/-! ### what stays where a rereading changes -/
structure Cq (K : PySem.W.Frag) (CQ : Addr) : Prop where
  iQ : C8.InsC K CQ
  q1 : NoAttr K CQ "tongue"
  q2 : NoAttr K CQ "text"
  q3 : NoAttr K CQ "_kinds"
  q4 : NoAttr K CQ "_modes"
def Kp (H H' : Hp) : Prop := ∀ b o, H b = some o → (∀ kvs, o ≠ .dK kvs) → (∀ xs, o ≠ .lst xs) → (∀ ps, o ≠ .tbl ps) → (∀ C dx fs, o = .ins C dx fs → fs ≠ [] ∧ fs.lookup ("_modes" : Str) = none) → H' b = some o
theorem Kp.of {H H' : Hp} (s : Same H H') : Kp H H' := fun b o z _ _ _ _ => s b o z
theorem Kp.ks {H H' : Hp} (s : Ks H H') : Kp H H' := fun b o z n _ _ _ => s.1 b o z n
theorem Kp.ext {H H' : Hp} (s : LamX.ExtN H H') : Kp H H' := fun b o z _ _ n _ => s b o z n
theorem Kp.trans {H H1 H2 : Hp} (a : Kp H H1) (b : Kp H1 H2) : Kp H H2 := fun c o z n1 n2 n3 n4 => b c o (a c o z n1 n2 n3 n4) n1 n2 n3 n4
theorem Kp.lst {H : Hp} {L : Addr} {xs : List V} {o : HO} (h : H L = some (.lst xs)) : Kp H (upd H L o) := fun b u z _ n _ _ => by
  rw [upd_ne fun y => by rw [y, h] at z; exact n _ (Option.some.inj z).symm]; exact z
theorem Kp.tup {H H' : Hp} (s : Kp H H') {b : Addr} {xs : List V} (h : H b = some (.tup xs)) : H' b = some (.tup xs) := s b _ h (fun _ z => nomatch z) (fun _ z => nomatch z) (fun _ z => nomatch z) fun _ _ _ z => nomatch z
theorem Kp.ins {H H' : Hp} (s : Kp H H') {b C dx : Addr} {fs : List (Str × V)} (h : H b = some (.ins C dx fs)) (n : fs ≠ []) (l : fs.lookup ("_modes" : Str) = none) : H' b = some (.ins C dx fs) := s b _ h (fun _ z => nomatch z) (fun _ z => nomatch z) (fun _ z => nomatch z) fun _ _ _ z => by cases z; exact ⟨n, l⟩
theorem sqT_kp {K : PySem.W.Frag} {H H' : Hp} {b : Addr} {xs : List V} (h : SqT K H b xs) (e : Kp H H') : SqT K H' b xs := by
  rcases h with (h | ⟨o', h⟩) | h
  · exact .inl (.inl (e.tup h))
  · exact .inl (.inr ⟨o', e _ _ h (fun _ z => nomatch z) (fun _ z => nomatch z) (fun _ z => nomatch z) fun _ _ _ z => nomatch z⟩)
  · exact .inr h
theorem FdsAt.kp {CR : Addr} {H H' : Hp} {rs : List V} {fs : List Fd} (h : FdsAt CR H rs fs) (s : Kp H H') : FdsAt CR H' rs fs := h.keep fun c dx f z => s.ins z (fun y => nomatch y) (by rfl)
theorem MkAt.kp {K : PySem.W.Frag} {H H' : Hp} {v : V} {k : Str × Int × Int × Int} (h : MkAt K H v k) (s : Kp H H') : MkAt K H' v k := let ⟨t, u, e, h1, b, h2, h3⟩ := h
  ⟨t, u, e, s.tup h1, b, h2, sqT_kp h3 s⟩
theorem KeyAt.kp {K : PySem.W.Frag} {H H' : Hp} {xs : List Ent} {m : Int × Int × Int} {ks : List (Str × Int × Int × Int)} (h : KeyAt K H xs m ks) (s : Kp H H') : KeyAt K H' xs m ks := let ⟨b2, b, ys, kys, h1, h2, h3, h4, h5⟩ := h
  ⟨b2, b, ys, kys, h1, s.tup h2, h3, h4, h5.imp fun v k q => q.kp s⟩
theorem MarksMap.kp {P : Program} {w : World} {K : PySem.W.Frag} {H H' : Hp} {p : Addr} {fs : List Fd} (h : MarksMap P w K H p fs) (s : Kp H H') : MarksMap P w K H' p fs := let ⟨xs, a, b, c, d⟩ := h
  ⟨xs, s _ _ a (fun _ z => nomatch z) (fun _ z => nomatch z) (fun _ z => nomatch z) (fun _ _ _ z => nomatch z), fun q hq => sqT_kp (b q hq) s, c.kp s, fun i f e g1 g2 g3 => (d i f e g1 g2 g3).kp s⟩
/-- a reader of right rules -/
def RdX (P : Program) (w : World) (K : PySem.W.Frag) (CR CD : Addr) (H : Hp) (rd : Addr) (fs : List Fd) : Prop := ∃ (dd b p : Addr) (rs : List V), H rd = some (.ins CD dd [("parts", .ref b), ("_marks", .ref p)]) ∧ H b = some (.tup rs) ∧ FdsAt CR H rs fs ∧ MarksMap P w K H p fs
theorem RdX.kp {P : Program} {w : World} {K : PySem.W.Frag} {CR CD : Addr} {H H' : Hp} {rd : Addr} {fs : List Fd} (h : RdX P w K CR CD H rd fs) (s : Kp H H') : RdX P w K CR CD H' rd fs := let ⟨dd, b, p, rs, a1, a2, a3, a4⟩ := h
  ⟨dd, b, p, rs, s.ins a1 (fun y => nomatch y) (by rfl), s.tup a2, a3.kp s, a4.kp s⟩
/-- its tongue -/
def TgQ (P : Program) (w : World) (K : PySem.W.Frag) (CR CD CG : Addr) (H : Hp) (tg : Addr) (fs : List Fd) (tx : Str) : Prop := ∃ (dx rt : Addr) (wi : Int) (rd : Addr), H tg = some (.ins CG dx (tgF tx rt wi rd)) ∧ RdX P w K CR CD H rd fs
theorem TgQ.kp {P : Program} {w : World} {K : PySem.W.Frag} {CR CD CG : Addr} {H H' : Hp} {tg : Addr} {fs : List Fd} {tx : Str} (h : TgQ P w K CR CD CG H tg fs tx) (s : Kp H H') : TgQ P w K CR CD CG H' tg fs tx := let ⟨dx, rt, wi, rd, a1, a2⟩ := h
  ⟨dx, rt, wi, rd, s.ins a1 (fun y => nomatch y) (by rfl), a2.kp s⟩
/-! ### ways of reading as values -/
def modeI : Md → Int × Int × Int
  | none => (-1, 0, 0)
  | some (k, d, e) => ((k : Int), (d : Int), if e = true then 1 else 0)
theorem modeI_inj {m n : Md} (h : modeI m = modeI n) : m = n := by
  match m, n with
  | none, none => rfl
  | none, some (k, d, e) => have : (-1 : Int) = (k : Int) := congrArg Prod.fst h; omega
  | some (k, d, e), none => have : (k : Int) = -1 := congrArg Prod.fst h; omega
  | some (k, d, e), some (k', d', e') =>
    have h1 : (k : Int) = (k' : Int) := congrArg Prod.fst h
    have h2 : (d : Int) = (d' : Int) := congrArg (fun x : Int × Int × Int => x.2.1) h
    have h3 : (if e = true then (1 : Int) else 0) = if e' = true then 1 else 0 := congrArg (fun x : Int × Int × Int => x.2.2) h
    have e1 : k = k' := by omega
    have e2 : d = d' := by omega
    subst e1
    subst e2
    cases e <;> cases e' <;> first | rfl | (exfalso; revert h3; decide)
theorem modeI_to {fs : List Fd} {x : Int × Int × Int} (h : ModeOk fs x) : modeI (toMd x) = x := by
  rcases h with rfl | ⟨n, d, e, _, _, _, rfl⟩
  · rfl
  · rw [toMd_in]
    cases e <;> rfl
def MdV (K : PySem.W.Frag) (fs : List Fd) (H : Hp) (v : V) (m : Md) : Prop := ∃ b, v = .ref b ∧ SqT K H b [.int (modeI m).1, .int (modeI m).2.1, .int (modeI m).2.2] ∧ ModeOk fs (modeI m)
theorem MdV.kp {K : PySem.W.Frag} {fs : List Fd} {H H' : Hp} {v : V} {m : Md} (h : MdV K fs H v m) (s : Kp H H') : MdV K fs H' v m := let ⟨b, e, h1, h2⟩ := h; ⟨b, e, sqT_kp h1 s, h2⟩
def MdsV (K : PySem.W.Frag) (fs : List Fd) (H : Hp) (vs : List V) (ms : List Md) : Prop := vs.length = ms.length ∧ ∀ (j : Nat) (v : V) (m : Md), vs[j]? = some v → ms[j]? = some m → MdV K fs H v m
section
variable {K : PySem.W.Frag} {fs : List Fd} {H H' : Hp} {vs us : List V} {ms ns : List Md}
theorem MdsV.kp (h : MdsV K fs H vs ms) (s : Kp H H') : MdsV K fs H' vs ms := ⟨h.1, fun j v m a b => (h.2 j v m a b).kp s⟩
theorem MdsV.nil : MdsV K fs H [] [] := ⟨rfl, fun _ _ _ z => nomatch z⟩
theorem MdsV.app (h : MdsV K fs H vs ms) (g : MdsV K fs H us ns) : MdsV K fs H (vs ++ us) (ms ++ ns) := by
  refine ⟨by rw [List.length_append, List.length_append, h.1, g.1], fun j v m a b => ?_⟩
  have hl := h.1
  rcases Nat.lt_or_ge j vs.length with c | c
  · rw [List.getElem?_append_left c] at a
    rw [List.getElem?_append_left (by omega)] at b
    exact h.2 j v m a b
  · rw [List.getElem?_append_right c] at a
    rw [List.getElem?_append_right (by omega), ← hl] at b
    exact g.2 _ v m a b
theorem MdsV.one {v : V} {m : Md} (h : MdV K fs H v m) : MdsV K fs H [v] [m] := ⟨rfl, fun j x y a b => by
  cases j with
  | zero => cases a; cases b; exact h
  | succ j => cases a⟩
theorem MdsV.drop (h : MdsV K fs H vs ms) (n : Nat) : MdsV K fs H (vs.drop n) (ms.drop n) := by
  refine ⟨by rw [List.length_drop, List.length_drop, h.1], fun j v m a b => ?_⟩
  rw [List.getElem?_drop] at a b
  exact h.2 _ v m a b
theorem MdsV.take (h : MdsV K fs H vs ms) (n : Nat) : MdsV K fs H (vs.take n) (ms.take n) := by
  refine ⟨by rw [List.length_take, List.length_take, h.1], fun j v m a b => ?_⟩
  rw [List.getElem?_take] at a b
  split at a
  · rw [if_pos (by assumption)] at b
    exact h.2 _ v m a b
  · cases a
end
/-! ### the promises -/
def sp_readAgain (P : Program) (w : World) (K : PySem.W.Frag) (CR CD : Addr) : Sp := fun vs H Q _ => ∃ (rd mb se bh : Addr) (fs : List Fd) (t : List Nat) (p0 ed : Nat) (bv : List V) (bs : List Md), vs = [.ref rd, .ref mb, .str (S t), .ref se, .ref bh] ∧
  RdX P w K CR CD H rd fs ∧ FdG fs ∧ MdV K fs H (.ref mb) (mAt (fs.map ruOf) t p0) ∧ SqT K H se [.int (p0 : Int), .int (ed : Int)] ∧ H bh = some (.lst bv) ∧ MdsV K fs H bv bs ∧ LnAt t p0 ∧ p0 ≤ ed ∧ ed ≤ t.length ∧ t.length ≤ 20000 ∧ bs.length = (stG ed (t.drop ed)).length ∧
  ∀ (H' : Hp) (r Lm : Addr) (ks : List Nat) (mv : List V) (ms : List Md) (e used : Nat), Same H H' → H' r = some (.tup [.str (S ks), .ref Lm, .int (e : Int), .int (used : Int)]) → H' Lm = some (.lst mv) → MdsV K fs H' mv ms → RaRes (fs.map ruOf) t p0 ed bs ks ms e used → Q (.ref r) H'
def sp_Tongue_kinds (P : Program) (w : World) (K : PySem.W.Frag) (CR CD CG : Addr) : Sp := fun vs H Q _ => ∃ (tg : Addr) (fs : List Fd) (tx : Str) (t : List Nat), vs = [.ref tg, .str (S t)] ∧ TgQ P w K CR CD CG H tg fs tx ∧ FdG fs ∧ t.length ≤ 20000 ∧ ∀ H' : Hp, Same H H' → Q (.str (S (kdsOf (fs.map ruOf) t))) H'
theorem eqv3 (a b c a' b' c' : Int) : PyData.eqv (.tuple [.int a, .int b, .int c]) (.tuple [.int a', .int b', .int c']) = decide (a = a' ∧ b = b' ∧ c = c') := by
  simp [PyData.eqv, PyData.eqvAll]
  rfl
theorem mode_eqv {m n : Md} : PyData.eqv (.tuple [.int (modeI m).1, .int (modeI m).2.1, .int (modeI m).2.2]) (.tuple [.int (modeI n).1, .int (modeI n).2.1, .int (modeI n).2.2]) = decide (m = n) := by
  rw [eqv3]
  refine decide_eq_decide.mpr ⟨fun z => modeI_inj (Prod.ext z.1 (Prod.ext z.2.1 z.2.2)), fun z => by rw [z]; exact ⟨rfl, rfl, rfl⟩⟩

end
end Vf

set_option maxRecDepth 100000
set_option maxHeartbeats 4000000
namespace Vf
open PySem PySem.Spec PyProof.Rows L2 SX
section
variable {P : Program} {w : World} {K : PySem.W.Frag} {mg : Str → Option Value} {base : Heap}
/-! ### the law's own reading -/
theorem slice2 {a : List Nat} {i j : Nat} (h : i ≤ j) : Txt.slice (S a) (some (i : Int)) (some (j : Int)) = S ((a.drop i).take (j - i)) := by
  rw [← C8.cutS_slice]
  unfold cutS
  rw [S_len, HT.sIx_nat, HT.sIx_nat]
  show S ((a.drop (min i a.length)).take (min j a.length - min i a.length)) = _
  congr 1
  by_cases hi : i ≤ a.length
  · rw [Nat.min_eq_left hi]
    by_cases hj : j ≤ a.length
    · rw [Nat.min_eq_left hj]
    · rw [Nat.min_eq_right (by omega), List.take_of_length_le (by rw [List.length_drop]; omega), List.take_of_length_le (by rw [List.length_drop]; omega)]
  · rw [List.drop_eq_nil_of_le (by omega), List.drop_eq_nil_of_le (by omega), List.take_nil, List.take_nil]
def RlsX (H : Hp) (L : Addr) (qs : List Rr) : Prop := ∃ rs : List V, H L = some (.lst rs) ∧ rs.length = qs.length ∧ ∀ (j : Nat) (v : V) (r : Rr), rs[j]? = some v → qs[j]? = some r → R7x v H r
theorem RlsX.same {H H' : Hp} {L : Addr} {qs : List Rr} (h : RlsX H L qs) (s : Same H H') : RlsX H' L qs := let ⟨rs, a, b, c⟩ := h
  ⟨rs, s _ _ a, b, fun j v r x y => (c j v r x y).tk fun b xs z => s _ _ z⟩
theorem RlsX.ks {H H' : Hp} {L : Addr} {qs : List Rr} (h : RlsX H L qs) (s : Ks H H') : RlsX H' L qs := let ⟨rs, a, b, c⟩ := h
  ⟨rs, s.1 _ _ a (fun _ z => nomatch z), b, fun j v r x y => (c j v r x y).tk fun b xs z => s.1 _ _ z (fun _ z => nomatch z)⟩
def QsOk (qs : List Rr) : Prop := (∀ r ∈ qs, RrOk r) ∧ (qs.map Rr.o).Nodup ∧ 1 ≤ qs.length ∧ qs.length ≤ 8
theorem QsOk.g {qs : List Rr} (h : QsOk qs) : FdG (qs.map fdR) := fdG_of h.1 h.2.1 h.2.2.2
abbrev rsQ (qs : List Rr) : List Ru := qs.map ruR
theorem QsOk.ok {qs : List Rr} (h : QsOk qs) : ∀ r ∈ rsQ qs, RuOk r := by
  have := h.g.okR
  rw [ruR_map] at this
  exact this
theorem QsOk.nn {qs : List Rr} (h : QsOk qs) : NoNl (rsQ qs) := by
  have := h.g.nn
  rw [ruR_map] at this
  exact this
def sp_tongueText : Sp := fun vs H Q _ => ∃ (L : Addr) (qs : List Rr), vs = [.ref L] ∧ RlsX H L qs ∧ QsOk qs ∧ ∀ H' : Hp, Same H H' → Q (.str (tongueT qs)) H'
def sp_ruleWords : Sp := fun vs H Q _ => ∃ (L : Addr) (qs : List Rr), vs = [.ref L] ∧ RlsX H L qs ∧ QsOk qs ∧ ∀ (H' : Hp) (W : Addr) (ws : List Str), Same H H' → H W = none → H' W = some (.lst (ws.map V.str)) → 1 ≤ ws.length → ws.length ≤ 24 → (∀ x ∈ ws, isMk x = true) → Q (.ref W) H'
def Sm (x : Str) : Prop := ∀ c ∈ TL.tl x, c < 1000
theorem mk_sm {x : Str} (h : isMk x = true) : Sm x := fun c hc => ((mk_good h).2 c hc).2
def sp_tongueSigns : Sp := fun vs H Q _ => ∃ (L : Addr) (qs : List Rr), vs = [.ref L] ∧ RlsX H L qs ∧ QsOk qs ∧ ∀ (H' : Hp) (W : Addr) (ws : List Str), Same H H' → H' W = some (.lst (ws.map V.str)) → ws.length ≤ 200 → (∀ x ∈ ws, x.length = 1 ∧ Sm x) → Q (.ref W) H'
def sp_markedText : Sp := fun vs H Q _ => ∃ (p c L : Addr) (m n : Nat) (qs : List Rr), vs = [.ref p, .ref L, .int (n : Int)] ∧ PenAt H p c m ∧ m < 700000 ∧ n ≤ 100 ∧ RlsX H L qs ∧ QsOk qs ∧ ∀ (H' : Hp) (t : List Nat), Ks H H' → PenAt H' p c (m + 200) → t.length ≤ 4 * n → (∀ c ∈ t, c < 1000) → Q (.str (S t)) H'
def opV : Option Nat × Nat → Int × Int
  | (none, m) => (-1, (m : Int))
  | (some k, m) => ((k : Int), (m : Int))
def sp_opened : Sp := fun vs H Q _ => ∃ (L : Addr) (qs : List Rr) (t : List Nat) (at_ : Nat), vs = [.ref L, .str (S t), .int (at_ : Int)] ∧ RlsX H L qs ∧ QsOk qs ∧ at_ ≤ t.length ∧ t.length ≤ 20000 ∧
  ∀ (H' : Hp) (b : Addr), Same H H' → H' b = some (.tup [.int (opV (openL (rsQ qs) (t.drop at_))).1, .int (opV (openL (rsQ qs) (t.drop at_))).2]) → Q (.ref b) H'
def sp_lawPassed : Sp := fun vs H Q _ => ∃ (v : V) (r : Rr) (t : List Nat) (at_ d : Nat), vs = [v, .str (S t), .int (at_ : Int), .int (d : Int)] ∧ R7x v H r ∧ at_ < t.length ∧ t.length ≤ 20000 ∧ 1 ≤ d ∧ d ≤ 1000000 ∧
  ∀ (H' : Hp) (b : Addr), Same H H' → H' b = some (.tup [.int ((stepL (ruR r) (t.drop at_) d).1 : Int), .int ((stepL (ruR r) (t.drop at_) d).2 : Int)]) → Q (.ref b) H'
def pcV (p : Pc) : List V := [.int (p.1 : Int), .int (p.2.1 : Int), .int (p.2.2 : Int)]
def PcsX (H : Hp) (L : Addr) (ps : List Pc) : Prop := ∃ vs : List V, H L = some (.lst vs) ∧ vs.length = ps.length ∧ ∀ (j : Nat) (v : V) (p : Pc), vs[j]? = some v → ps[j]? = some p → ∃ b, v = .ref b ∧ H b = some (.tup (pcV p))
def pcsOf (rs : List Ru) (t : List Nat) : List Pc := outL rs (2 * t.length + 2) none 0 t
def sp_lawPieces : Sp := fun vs H Q _ => ∃ (L : Addr) (qs : List Rr) (t : List Nat), vs = [.ref L, .str (S t)] ∧ RlsX H L qs ∧ QsOk qs ∧ t.length ≤ 20000 ∧
  ∀ (H' : Hp) (b F : Addr) (i : Int), Same H H' → H' b = some (.tup [.ref F, .int i]) → PcsX H' F (pcsOf (rsQ qs) t) → Q (.ref b) H'
def sp_lawKinds : Sp := fun vs H Q _ => ∃ (L : Addr) (qs : List Rr) (t : List Nat), vs = [.ref L, .str (S t)] ∧ RlsX H L qs ∧ QsOk qs ∧ t.length ≤ 20000 ∧ ∀ H' : Hp, Same H H' → Q (.str (S (kdsOf (rsQ qs) t))) H'

end
end Vf

set_option maxRecDepth 100000
set_option maxHeartbeats 4000000
namespace Vf
open PySem PySem.Spec PyProof.Rows L2 SX
section
variable {P : Program} {w : World} {K : PySem.W.Frag} {mg : Str → Option Value} {base : Heap}
/-! ### weights -/
def fdWt (f : Fd) : Int :=
  let m1 : Int := if ((f.cl.length : Int) != 0) = true then (f.cl.length : Int) - 1 else 0
  let m2 : Int := if ((f.nd : Int) != 0) = true then m1 + ((f.op.length : Int) - 1) else m1
  let m3 : Int := if f.db = true then 2 * (f.cl.length : Int) - 1 else m2
  let m4 : Int := if ((f.es.length : Int) != 0) = true then m3 + 1 else m3
  (f.op.length : Int) - 1 + (if (1 : Int) > (f.nd : Int) then 1 else (f.nd : Int)) * (1 + m4)
def FdSm (f : Fd) : Prop := f.op.length ≤ 50 ∧ f.cl.length ≤ 50 ∧ f.nd ≤ 4 ∧ f.es.length ≤ 4
def sp3_ruleWeight (CR : Addr) : Sp := fun vs H Q _ => ∃ (v : V) (f : Fd), vs = [v] ∧ FdAt CR H v f ∧ FdSm f ∧ Q (.int (fdWt f)) H
def TgWt (CG : Addr) (H : Hp) (a : Addr) (wt : Int) : Prop := ∃ (dx : Addr) (t : Str) (rt rd : Addr), H a = some (.ins CG dx (tgF t rt wt rd))
def wtOf (fs : List Fd) : Int := 1 + (fs.map fdWt).sum
def sp3_Tongue_init (P : Program) (w : World) (K : PySem.W.Frag) (CR CD CG CT P0 : Addr) : Sp := fun vs H Q E => ∃ (a dx : Addr) (t : Str), vs = [.ref a, .str t] ∧ H a = some (.ins CG dx []) ∧ t.length ≤ 100000 ∧ LnOk (lnsOf t) ∧ LamX.Tabs (T0 P0) H ∧ (∀ f ∈ fdsOf (lnsOf t), FdSm f) ∧
  (fw (lnsOf t) = none → ∀ H' : Hp, ExX a H H' → LamX.Tabs (T0 P0) H' → TgX P w K CR CD CG H' a t → TgWt CG H' a (wtOf (fdsOf (lnsOf t))) → Q .non H') ∧ ∀ p, fw (lnsOf t) = some p → ErT CT H p E

end
end Vf

set_option maxRecDepth 100000
set_option maxHeartbeats 4000000
namespace Vf
/-! ### what an exchange touches -/
def tchP (kd kd' : List Nat) (start many k : Nat) : Bool := decide (start ≤ k ∧ k < start + many) || decide (kd'[k]? ≠ kd[if k < start then k else k + kd.length - kd'.length]?)
def touchL (kd kd' : List Nat) (start many : Nat) : List Nat := (List.range kd'.length).filter (tchP kd kd' start many)
theorem range_cut {a b c : Nat} (h1 : a ≤ b) (h2 : b ≤ c) : List.range' a (c - a) = List.range' a (b - a) ++ List.range' b (c - b) := by
  have := List.range'_append (s := a) (m := b - a) (n := c - b) (step := 1)
  rw [Nat.one_mul, show a + (b - a) = b by omega, show b - a + (c - b) = c - a by omega] at this
  exact this.symm
theorem filter_none {p : Nat → Bool} {l : List Nat} (h : ∀ k ∈ l, p k = false) : l.filter p = [] := List.filter_eq_nil_iff.mpr fun k hk => by rw [h k hk]; exact Bool.false_ne_true
theorem filter_all {p : Nat → Bool} {l : List Nat} (h : ∀ k ∈ l, p k = true) : l.filter p = l := List.filter_eq_self.mpr h
theorem touch_eq {kd kd' : List Nat} {begin start many e : Nat} (b1 : begin ≤ start) (b2 : start + many ≤ e) (b3 : e ≤ kd'.length) (h1 : ∀ k, k < begin → kd'[k]? = kd[k]?) (h2 : ∀ k, e ≤ k → kd'[k]? = kd[k + kd.length - kd'.length]?) :
    touchL kd kd' start many = (List.range' begin (start - begin)).filter (fun k => decide (kd'[k]? ≠ kd[k]?)) ++ (List.range' start many ++ (List.range' (start + many) (e - (start + many))).filter (fun k => decide (kd'[k]? ≠ kd[k + kd.length - kd'.length]?))) := by
  unfold touchL
  have e0 : List.range kd'.length = List.range' 0 (begin - 0) ++ (List.range' begin (start - begin) ++ (List.range' start many ++ (List.range' (start + many) (e - (start + many)) ++ List.range' e (kd'.length - e)))) := by
    rw [List.range_eq_range']
    have a := range_cut (a := 0) (b := begin) (c := kd'.length) (by omega) (by omega)
    have b := range_cut (a := begin) (b := start) (c := kd'.length) (by omega) (by omega)
    have c := range_cut (a := start) (b := start + many) (c := kd'.length) (by omega) (by omega)
    have d := range_cut (a := start + many) (b := e) (c := kd'.length) (by omega) (by omega)
    rw [Nat.sub_zero] at a
    rw [a, b, c, d, show start + many - start = many by omega]
  rw [e0, List.filter_append, List.filter_append, List.filter_append, List.filter_append]
  have p1 : (List.range' 0 (begin - 0)).filter (tchP kd kd' start many) = [] := filter_none fun k hk => by
    rw [List.mem_range'_1] at hk
    unfold tchP
    rw [decide_eq_false (by omega), if_pos (by omega), decide_eq_false (fun z => z (h1 k (by omega)))]; rfl
  have p5 : (List.range' e (kd'.length - e)).filter (tchP kd kd' start many) = [] := filter_none fun k hk => by
    rw [List.mem_range'_1] at hk
    unfold tchP
    rw [decide_eq_false (by omega), if_neg (by omega), decide_eq_false (fun z => z (h2 k (by omega)))]; rfl
  have p3 : (List.range' start many).filter (tchP kd kd' start many) = List.range' start many := filter_all fun k hk => by
    rw [List.mem_range'_1] at hk
    unfold tchP
    rw [decide_eq_true (by omega)]; rfl
  have p2 : (List.range' begin (start - begin)).filter (tchP kd kd' start many) = (List.range' begin (start - begin)).filter (fun k => decide (kd'[k]? ≠ kd[k]?)) := List.filter_congr fun k hk => by
    rw [List.mem_range'_1] at hk
    unfold tchP
    rw [decide_eq_false (by omega), if_pos (by omega), Bool.false_or]
  have p4 : (List.range' (start + many) (e - (start + many))).filter (tchP kd kd' start many) = (List.range' (start + many) (e - (start + many))).filter (fun k => decide (kd'[k]? ≠ kd[k + kd.length - kd'.length]?)) := List.filter_congr fun k hk => by
    rw [List.mem_range'_1] at hk
    unfold tchP
    rw [decide_eq_false (by omega), if_neg (by omega), Bool.false_or]
  rw [p1, p2, p3, p4, p5, List.nil_append, List.append_nil]
/-- from the first to behind the last -/
def touchR (l : List Nat) (start : Nat) : Nat × Nat := match l.head?, l.getLast? with
  | some i, some j => (i, j + 1)
  | _, _ => (start, start)
end Vf

set_option maxRecDepth 100000
set_option maxHeartbeats 4000000
namespace Vf
/-! ### reading sign by sign -/
def stopM (rs : List Ru) : Md → List Nat → Prop
  | none, t => ∃ r ∈ rs, t.length < r.o.length ∧ Sw t r.o
  | some (_, _, true), _ => False
  | some (k, d, false), t => ∃ ru, rs[k]? = some ru ∧ ¬ (ru.e ≠ [] ∧ t.take 1 = ru.e) ∧ ∃ mk ∈ marksP ru d, t.length < mk.1.length ∧ Sw t mk.1
theorem sw_more {m t u : List Nat} (h : ¬ (t.length < m.length ∧ Sw t m)) : Sw m (t ++ u) ↔ Sw m t := by
  constructor
  · rintro ⟨r, e⟩
    by_cases c : m.length ≤ t.length
    · have := congrArg (List.take m.length) e
      rw [List.take_left, List.take_append_of_le_length c] at this
      exact ⟨t.drop m.length, by conv => lhs; rw [← List.take_append_drop m.length t, this]⟩
    · refine absurd ⟨by omega, ?_⟩ h
      have := congrArg (List.take t.length) e
      rw [List.take_left, List.take_append_of_le_length (by omega)] at this
      exact ⟨m.drop t.length, by conv => lhs; rw [← List.take_append_drop t.length m, ← this]⟩
  · rintro ⟨r, rfl⟩
    exact ⟨r ++ u, by rw [List.append_assoc]⟩
theorem nextM_more {rs : List Ru} {m : Md} (hm : OkMd rs m) {t u : List Nat} (ht : t ≠ []) (h : ¬ stopM rs m t) : nextM rs m (t ++ u) = nextM rs m t := by
  have t1 : (t ++ u).take 1 = t.take 1 := by
    cases t with
    | nil => exact absurd rfl ht
    | cons a b => rfl
  match m, hm, h with
  | none, _, h => exact congrArg (nextO rs) (opGo_congr fun r hr => sw_more fun z => h ⟨r, hr, z⟩)
  | some (k, d, true), _, _ => rfl
  | some (k, d, false), hm, h =>
    have hk : k < rs.length := hm.1
    have hr : rs[k]? = some rs[k] := List.getElem?_eq_getElem hk
    rw [nextM_in hr, nextM_in hr, t1]
    generalize rs[k] = ru at hr
    by_cases he : ru.e ≠ [] ∧ t.take 1 = ru.e
    · rw [if_pos he, if_pos he]
    · rw [if_neg he, if_neg he]
      have no : ∀ mk ∈ marksP ru d, Sw mk.1 (t ++ u) ↔ Sw mk.1 t := fun mk hk => sw_more fun z => h ⟨ru, hr, he, mk, hk, z⟩
      have : stepL ru (t ++ u) d = stepL ru t d := by
        have he' : ¬ (ru.e ≠ [] ∧ (t ++ u).take 1 = ru.e) := by rw [t1]; exact he
        unfold stepL
        rw [if_neg he, if_neg he', t1]
        have mc : ru.c ≠ [] → (Sw ru.c (t ++ u) ↔ Sw ru.c t) := fun z => no (ru.c, d - 1) (by unfold marksP; rw [if_pos z]; simp)
        have mo : d < ru.d → (Sw ru.o (t ++ u) ↔ Sw ru.o t) := fun z => no (ru.o, d + 1) (by unfold marksP; rw [if_pos z]; simp)
        have md : ru.db = true → (Sw (ru.c ++ ru.c) (t ++ u) ↔ Sw (ru.c ++ ru.c) t) := fun z => no (ru.c ++ ru.c, d) (by unfold marksP; rw [if_pos z]; simp)
        refine ite_iff (and_congr_right md) (ite_iff (and_congr_right fun z => and_congr (mo z) (or_congr (not_congr (and_congr_right mc)) Iff.rfl)) (ite_iff (and_congr_right mc) rfl))
      rw [this]
inductive Sd (rs : List Ru) : Md → List Nat → Md → List Nat → List Nat → Prop
  | stop {m : Md} {t : List Nat} : (t = [] ∨ stopM rs m t) → Sd rs m t m t []
  | go {m m' : Md} {t t' ks : List Nat} : t ≠ [] → ¬ stopM rs m t → Sd rs (nextM rs m t).1 (t.drop (nextM rs m t).2.1) m' t' ks → Sd rs m t m' t' (List.replicate (nextM rs m t).2.1 (nextM rs m t).2.2 ++ ks)
theorem sd_det {rs : List Ru} {m m1 m2 : Md} {t t1 t2 k1 k2 : List Nat} (h1 : Sd rs m t m1 t1 k1) (h2 : Sd rs m t m2 t2 k2) : m1 = m2 ∧ t1 = t2 ∧ k1 = k2 := by
  induction h1 generalizing m2 t2 k2 with
  | stop h =>
    cases h2 with
    | stop _ => exact ⟨rfl, rfl, rfl⟩
    | go g1 g2 _ => exact h.elim (fun z => absurd z g1) fun z => absurd z g2
  | go g1 g2 _ ih =>
    cases h2 with
    | stop h => exact h.elim (fun z => absurd z g1) fun z => absurd z g2
    | go _ _ h =>
      obtain ⟨a, b, c⟩ := ih h
      exact ⟨a, b, by rw [c]⟩
theorem sd_more {rs : List Ru} (ok : ∀ r ∈ rs, RuOk r) {m m' : Md} {t w ks : List Nat} (h : Sd rs m t m' w ks) (hm : OkMd rs m) : OkMd rs m' ∧ ks.length + w.length = t.length ∧ w = t.drop ks.length ∧ (w = [] ∨ stopM rs m' w) ∧ ∀ u, rdM rs m (t ++ u) = ((rdM rs m' (w ++ u)).1, ks ++ (rdM rs m' (w ++ u)).2) := by
  induction h with
  | stop h => exact ⟨hm, Nat.zero_add _, rfl, h, fun u => rfl⟩
  | @go m m' t t' ks g1 g2 _ ih =>
    have np := nextM_pos ok g1 hm
    obtain ⟨a1, a2, a3, a4, a5⟩ := ih np.1
    rw [List.length_drop] at a2
    have l := np.2.1
    refine ⟨a1, by rw [List.length_append, List.length_replicate]; omega, ?_, a4, fun u => ?_⟩
    · rw [List.length_append, List.length_replicate, ← List.drop_drop]; exact a3
    · have hne : t ++ u ≠ [] := fun z => g1 (List.append_eq_nil_iff.mp z).1
      rw [rdM_step ok hne hm, nextM_more hm g1 g2, List.drop_append_of_le_length l, a5 u]
      dsimp only
      rw [List.append_assoc]
/-- a machine's way along a text -/
inductive Mac (rs : List Ru) : List Nat → Md → List Nat → List Nat → Prop
  | start : Mac rs [] none [] []
  | put {x : List Nat} {m m' : Md} {w w' ks ks' : List Nat} {c : Nat} : Mac rs x m w ks → Sd rs m (w ++ [c]) m' w' ks' → Mac rs (x ++ [c]) m' w' (ks ++ ks')
theorem mac_all {rs : List Ru} (ok : ∀ r ∈ rs, RuOk r) {x w ks : List Nat} {m : Md} (h : Mac rs x m w ks) : OkMd rs m ∧ ks.length + w.length = x.length ∧ w = x.drop ks.length ∧ (w = [] ∨ stopM rs m w) ∧ ∀ u, rdM rs none (x ++ u) = ((rdM rs m (w ++ u)).1, ks ++ (rdM rs m (w ++ u)).2) := by
  induction h with
  | start => exact ⟨trivial, rfl, rfl, .inl rfl, fun u => rfl⟩
  | @put x m m' w w' ks ks' c h1 h2 ih =>
    obtain ⟨a1, a2, a3, a4, a5⟩ := ih
    obtain ⟨b1, b2, b3, b4, b5⟩ := sd_more ok h2 a1
    rw [List.length_append, List.length_singleton] at b2
    refine ⟨b1, by rw [List.length_append, List.length_append, List.length_singleton]; omega, ?_, b4, fun u => ?_⟩
    · rw [List.length_append, ← List.drop_drop, List.drop_append_of_le_length (by omega), ← a3]; exact b3
    · rw [List.append_assoc, a5, ← List.append_assoc w, b5 u]
      dsimp only
      rw [List.append_assoc]
/-- what is told of a text sign by sign -/
theorem mac_kinds {rs : List Ru} (ok : ∀ r ∈ rs, RuOk r) {x w ks : List Nat} {m : Md} (h : Mac rs x m w ks) : kdsOf rs x = ks ++ (rdM rs m w).2 := by
  have := (mac_all ok h).2.2.2.2 []
  rw [List.append_nil, List.append_nil] at this
  show (rdM rs none x).2 = _
  rw [this]
/-- a sign that is in no mark settles all -/
theorem mac_plain {rs : List Ru} (ok : ∀ r ∈ rs, RuOk r) {x w ks : List Nat} {m : Md} {c : Nat} (hc : ∀ r ∈ rs, c ∉ r.o ∧ c ∉ r.c) (h : Mac rs (x ++ [c]) m w ks) : w = [] := by
  obtain ⟨a1, a2, a3, a4, a5⟩ := mac_all ok h
  refine a4.elim id fun z => ?_
  refine Classical.byContradiction fun hw => ?_
  have hcw : c ∈ w := by
    rw [List.length_append, List.length_singleton] at a2
    have l1 : 1 ≤ w.length := List.length_pos_iff.mpr hw
    rw [a3, List.drop_append_of_le_length (by omega)]
    exact List.mem_append_right _ (.head _)
  have sub : ∀ {mk : List Nat}, Sw w mk → c ∈ mk := fun ⟨r, e⟩ => by rw [e]; exact List.mem_append_left _ hcw
  match m, a1, z with
  | none, _, ⟨r, hr, _, hs⟩ => exact (hc r hr).1 (sub hs)
  | some (k, d, false), _, ⟨ru, hr, _, mk, hmk, _, hs⟩ =>
    have hh := hc ru (List.mem_of_getElem? hr)
    have := sub hs
    unfold marksP at hmk
    rcases List.mem_append.mp hmk with y | y
    · split at y
      · rw [List.mem_singleton.mp y] at this; exact hh.2 this
      · cases y
    · rcases List.mem_append.mp y with y | y
      · split at y
        · rw [List.mem_singleton.mp y] at this; exact hh.1 this
        · cases y
      · split at y
        · rw [List.mem_singleton.mp y] at this
          exact (List.mem_append.mp this).elim hh.2 hh.2
        · cases y
/-- texts that lead to one stand are read alike behind -/
theorem mac_alike {rs : List Ru} (ok : ∀ r ∈ rs, RuOk r) {x y w ks ls : List Nat} {m : Md} (h1 : Mac rs x m w ks) (h2 : Mac rs y m w ls) (u : List Nat) : (kdsOf rs (x ++ u)).drop (x.length - w.length) = (kdsOf rs (y ++ u)).drop (y.length - w.length) := by
  obtain ⟨_, a2, _, _, a5⟩ := mac_all ok h1
  obtain ⟨_, b2, _, _, b5⟩ := mac_all ok h2
  show (rdM rs none (x ++ u)).2.drop _ = (rdM rs none (y ++ u)).2.drop _
  rw [a5 u, b5 u]
  dsimp only
  rw [show x.length - w.length = ks.length by omega, show y.length - w.length = ls.length by omega, List.drop_left, List.drop_left]
end Vf

set_option maxRecDepth 100000
set_option maxHeartbeats 4000000
namespace Vf
/-! ### how many stands there are -/
def ModB (rs : List Ru) : Md → Prop
  | none => True
  | some (k, d, e) => ∃ ru, rs[k]? = some ru ∧ 1 ≤ d ∧ d ≤ max ru.d 1 ∧ (e = true → ru.e ≠ [])
theorem stepL_dep {ru : Ru} {t : List Nat} {d : Nat} (h1 : d ≤ max ru.d 1) : (stepL ru t d).2 ≤ max ru.d 1 := by
  unfold stepL
  split
  · exact h1
  · split
    · exact h1
    · split
      · rename_i h
        show d + 1 ≤ _
        omega
      · split
        · show d - 1 ≤ _
          omega
        · split
          · exact Nat.zero_le _
          · exact h1
theorem nextM_modb {rs : List Ru} (ok : ∀ r ∈ rs, RuOk r) {m : Md} {t : List Nat} (ht : t ≠ []) (hm : ModB rs m) : ModB rs (nextM rs m t).1 := by
  match m, hm with
  | none, _ =>
    have hp := openL_pos ok ht
    show ModB rs (nextO rs (openL rs t)).1
    cases ho : openL rs t with
    | mk b w =>
      rw [ho] at hp
      cases b with
      | none => trivial
      | some k =>
        have hk := hp.2.2 k rfl
        exact ⟨rs[k], List.getElem?_eq_getElem hk, Nat.le_refl _, Nat.le_max_right .., fun z => nomatch z⟩
  | some (k, d, true), ⟨ru, h1, h2, h3, h4⟩ => exact ⟨ru, h1, h2, h3, fun z => nomatch z⟩
  | some (k, d, false), ⟨ru, h1, h2, h3, h4⟩ =>
    rw [nextM_in h1]
    by_cases he : ru.e ≠ [] ∧ t.take 1 = ru.e
    · rw [if_pos he]; exact ⟨ru, h1, h2, h3, fun _ => he.1⟩
    · rw [if_neg he]
      dsimp only
      by_cases h0 : (stepL ru t d).2 = 0
      · rw [if_pos h0]; trivial
      · rw [if_neg h0]; exact ⟨ru, h1, by omega, stepL_dep h3, fun z => nomatch z⟩
theorem modb_ok {rs : List Ru} {m : Md} (h : ModB rs m) : OkMd rs m := by
  match m, h with
  | none, _ => trivial
  | some (k, d, e), ⟨ru, h1, h2, _⟩ => exact ⟨(List.getElem?_eq_some_iff.mp h1).1, h2⟩
theorem sd_modb {rs : List Ru} (ok : ∀ r ∈ rs, RuOk r) {m m' : Md} {t w ks : List Nat} (h : Sd rs m t m' w ks) (hm : ModB rs m) : ModB rs m' := by
  induction h with
  | stop _ => exact hm
  | go g1 _ _ ih => exact ih (nextM_modb ok g1 hm)
theorem mac_modb {rs : List Ru} (ok : ∀ r ∈ rs, RuOk r) {x w ks : List Nat} {m : Md} (h : Mac rs x m w ks) : ModB rs m := by
  induction h with
  | start => trivial
  | put _ h2 ih => exact sd_modb ok h2 ih
/-- the beginnings of a mark that are not all of it -/
def prefs (mk : List Nat) : List (List Nat) := (List.range (mk.length - 1)).map fun i => mk.take (i + 1)
theorem prefs_len (mk : List Nat) : (prefs mk).length = mk.length - 1 := by unfold prefs; rw [List.length_map, List.length_range]
theorem prefs_mem {mk w : List Nat} (h1 : w ≠ []) (h2 : w.length < mk.length) (h3 : Sw w mk) : w ∈ prefs mk := by
  obtain ⟨r, rfl⟩ := h3
  have l1 : 1 ≤ w.length := List.length_pos_iff.mpr h1
  refine List.mem_map.mpr ⟨w.length - 1, List.mem_range.mpr (by rw [List.length_append] at h2 ⊢; omega), ?_⟩
  rw [show w.length - 1 + 1 = w.length by omega, List.take_left]
def manyR (r : Ru) : Nat := (if r.db = true then 2 * r.c.length - 1 else r.c.length - 1) + (if 0 < r.d then r.o.length - 1 else 0) + (if r.e ≠ [] then 1 else 0)
def stD (k : Nat) (r : Ru) (d : Nat) : List (Md × List Nat) :=
  ((some (k, d, false), []) :: (if r.db = true then prefs (r.c ++ r.c) else prefs r.c).map fun w => (some (k, d, false), w)) ++ ((if 0 < r.d then prefs r.o else []).map (fun w => (some (k, d, false), w)) ++ (if r.e ≠ [] then [(some (k, d, true), [])] else []))
theorem stD_len (k : Nat) (r : Ru) (d : Nat) : (stD k r d).length = 1 + manyR r := by
  have e1 : (if r.db = true then prefs (r.c ++ r.c) else prefs r.c).length = (if r.db = true then 2 * r.c.length - 1 else r.c.length - 1) := by
    split
    · rw [prefs_len, List.length_append]; omega
    · exact prefs_len _
  have e2 : (if 0 < r.d then prefs r.o else []).length = (if 0 < r.d then r.o.length - 1 else 0) := by
    split
    · exact prefs_len _
    · rfl
  have e3 : (if r.e ≠ [] then [((some (k, d, true), []) : Md × List Nat)] else []).length = (if r.e ≠ [] then 1 else 0) := by split <;> rfl
  unfold stD manyR
  rw [List.length_append, List.length_append, List.length_cons, List.length_map, List.length_map, e1, e2, e3]
  omega
def stR (k : Nat) (r : Ru) : List (Md × List Nat) := (prefs r.o).map (fun w => (none, w)) ++ (List.range (max r.d 1)).flatMap fun i => stD k r (i + 1)
def wtR (r : Ru) : Nat := r.o.length - 1 + max r.d 1 * (1 + manyR r)
theorem flat_len {α : Type} {f : Nat → List α} {b : Nat} (h : ∀ i, (f i).length = b) : ∀ n, ((List.range n).flatMap f).length = n * b
  | 0 => by simp
  | n + 1 => by
    rw [List.range_succ, List.flatMap_append, List.length_append, flat_len h n, List.flatMap_singleton, h, Nat.add_mul, Nat.one_mul]
theorem stR_len (k : Nat) (r : Ru) : (stR k r).length = wtR r := by
  unfold stR wtR
  rw [List.length_append, List.length_map, prefs_len, flat_len fun i => stD_len k r (i + 1)]
def stGo : Nat → List Ru → List (Md × List Nat)
  | _, [] => []
  | k, r :: rs => stR k r ++ stGo (k + 1) rs
theorem stGo_len : ∀ (rs : List Ru) (k : Nat), (stGo k rs).length = (rs.map wtR).sum
  | [], _ => rfl
  | r :: rs, k => by rw [stGo, List.length_append, stR_len, stGo_len rs (k + 1)]; rfl
theorem stGo_mem : ∀ {rs : List Ru} {k i : Nat} {r : Ru} {z : Md × List Nat}, rs[i]? = some r → z ∈ stR (k + i) r → z ∈ stGo k rs
  | [], _, _, _, _, h, _ => by cases h
  | q :: rs, k, 0, r, z, h, hz => by
    cases h
    exact List.mem_append_left _ hz
  | q :: rs, k, i + 1, r, z, h, hz => List.mem_append_right _ (stGo_mem (k := k + 1) (i := i) (r := r) h (by rw [show k + 1 + i = k + (i + 1) by omega]; exact hz))
def allSt (rs : List Ru) : List (Md × List Nat) := (none, []) :: stGo 0 rs
theorem allSt_len (rs : List Ru) : (allSt rs).length = 1 + (rs.map wtR).sum := by
  unfold allSt; rw [List.length_cons, stGo_len]; omega
theorem allSt_mem {rs : List Ru} (ok : ∀ r ∈ rs, RuOk r) {m : Md} {w : List Nat} (hm : ModB rs m) (hw : w = [] ∨ stopM rs m w) : (m, w) ∈ allSt rs := by
  have inR : ∀ {i : Nat} {r : Ru} {z : Md × List Nat}, rs[i]? = some r → z ∈ stR i r → z ∈ allSt rs := fun h hz => .tail _ (stGo_mem (k := 0) h (by rw [Nat.zero_add]; exact hz))
  have inD : ∀ {i d : Nat} {r : Ru} {z : Md × List Nat}, rs[i]? = some r → 1 ≤ d → d ≤ max r.d 1 → z ∈ stD i r d → z ∈ allSt rs := fun {i d r z} h h1 h2 hz =>
    inR h (List.mem_append_right _ (List.mem_flatMap.mpr ⟨d - 1, List.mem_range.mpr (by omega), by rw [show d - 1 + 1 = d by omega]; exact hz⟩))
  by_cases h0 : w = []
  · subst h0
    match m, hm with
    | none, _ => exact .head _
    | some (k, d, false), ⟨ru, h1, h2, h3, _⟩ => exact inD h1 h2 h3 (List.mem_append_left _ (.head _))
    | some (k, d, true), ⟨ru, h1, h2, h3, h4⟩ => exact inD h1 h2 h3 (List.mem_append_right _ (List.mem_append_right _ (by rw [if_pos (h4 rfl)]; exact .head _)))
  · have hs := hw.elim (fun z => absurd z h0) id
    match m, hm, hs with
    | none, _, ⟨r, hr, hl, hsw⟩ =>
      obtain ⟨i, hi⟩ := List.mem_iff_getElem?.mp hr
      exact inR hi (List.mem_append_left _ (List.mem_map.mpr ⟨w, prefs_mem h0 hl hsw, rfl⟩))
    | some (k, d, false), ⟨ru, h1, h2, h3, _⟩, ⟨r, hr, _, mk, hmk, hl, hsw⟩ =>
      rw [h1] at hr
      cases hr
      have okr := ok ru (List.mem_of_getElem? h1)
      have cIn : ∀ z ∈ prefs ru.c, z ∈ (if ru.db = true then prefs (ru.c ++ ru.c) else prefs ru.c) := fun z hz => by
        split
        · obtain ⟨i, hi, rfl⟩ := List.mem_map.mp hz
          have hi := List.mem_range.mp hi
          refine List.mem_map.mpr ⟨i, List.mem_range.mpr (by rw [List.length_append]; omega), ?_⟩
          rw [List.take_append_of_le_length (by omega)]
        · exact hz
      unfold marksP at hmk
      rcases List.mem_append.mp hmk with y | y
      · split at y
        · rw [List.mem_singleton.mp y] at hl hsw
          exact inD h1 h2 h3 (List.mem_append_left _ (.tail _ (List.mem_map.mpr ⟨w, cIn w (prefs_mem h0 hl hsw), rfl⟩)))
        · cases y
      · rcases List.mem_append.mp y with y | y
        · split at y
          · rename_i hd
            rw [List.mem_singleton.mp y] at hl hsw
            exact inD h1 h2 h3 (List.mem_append_right _ (List.mem_append_left _ (List.mem_map.mpr ⟨w, by rw [if_pos (by omega)]; exact prefs_mem h0 hl hsw, rfl⟩)))
          · cases y
        · split at y
          · rename_i hd
            rw [List.mem_singleton.mp y] at hl hsw
            exact inD h1 h2 h3 (List.mem_append_left _ (.tail _ (List.mem_map.mpr ⟨w, by rw [if_pos hd]; exact prefs_mem h0 hl hsw, rfl⟩)))
          · cases y
end Vf

set_option maxRecDepth 100000
set_option maxHeartbeats 4000000
namespace Vf
/-! ### signs that are read alike -/
def NoIn (rs : List Ru) (c : Nat) : Prop := c ≠ 10 ∧ ∀ r ∈ rs, c ∉ r.o ∧ c ∉ r.c ∧ c ∉ r.e
def Alk (rs : List Ru) (c d : Nat) : Prop := c = d ∨ (NoIn rs c ∧ NoIn rs d)
def AlkL (rs : List Ru) : List Nat → List Nat → Prop
  | [], [] => True
  | c :: x, d :: y => Alk rs c d ∧ AlkL rs x y
  | _, _ => False
theorem alkL_len {rs : List Ru} : ∀ {x y : List Nat}, AlkL rs x y → x.length = y.length
  | [], [], _ => rfl
  | _ :: x, _ :: y, h => congrArg (· + 1) (alkL_len h.2)
  | [], _ :: _, h => h.elim
  | _ :: _, [], h => h.elim
theorem alkL_drop {rs : List Ru} : ∀ {x y : List Nat} (n : Nat), AlkL rs x y → AlkL rs (x.drop n) (y.drop n)
  | x, y, 0, h => by rw [List.drop_zero, List.drop_zero]; exact h
  | [], [], _ + 1, _ => trivial
  | _ :: x, _ :: y, n + 1, h => alkL_drop n h.2
  | [], _ :: _, _ + 1, h => h.elim
  | _ :: _, [], _ + 1, h => h.elim
theorem alkL_sw {rs : List Ru} : ∀ {mk x y : List Nat}, (∀ c ∈ mk, ¬ NoIn rs c) → AlkL rs x y → (Sw mk x ↔ Sw mk y)
  | [], x, y, _, _ => ⟨fun _ => ⟨y, rfl⟩, fun _ => ⟨x, rfl⟩⟩
  | _ :: _, [], [], _, _ => Iff.rfl
  | a :: mk, c :: x, d :: y, h, hl => by
    have ih := alkL_sw (mk := mk) (fun c hc => h c (.tail _ hc)) hl.2
    have step : ∀ {c : Nat} {x : List Nat}, Sw (a :: mk) (c :: x) ↔ c = a ∧ Sw mk x := fun {c x} => ⟨fun ⟨r, e⟩ => by
        have e : c :: x = a :: (mk ++ r) := e
        cases e; exact ⟨rfl, r, rfl⟩, fun ⟨e, r, e2⟩ => ⟨r, by rw [e, e2]; rfl⟩⟩
    rw [step, step, ih]
    refine and_congr_left fun _ => ?_
    rcases hl.1 with rfl | ⟨g1, g2⟩
    · exact Iff.rfl
    · exact ⟨fun e => absurd (e ▸ g1) (h a (.head _)), fun e => absurd (e ▸ g2) (h a (.head _))⟩
  | _ :: _, [], _ :: _, _, h => h.elim
  | _ :: _, _ :: _, [], _, h => h.elim
theorem alkL_one {rs : List Ru} {a : Nat} {x y : List Nat} (ha : ¬ NoIn rs a) (h : AlkL rs x y) : x.take 1 = [a] ↔ y.take 1 = [a] := by
  have e : ∀ z : List Nat, z.take 1 = [a] ↔ Sw [a] z := fun z => by
    cases z with
    | nil => exact ⟨fun q => (by cases q), fun ⟨r, q⟩ => (by cases q)⟩
    | cons c z => exact ⟨fun q => ⟨z, (by have : [c] = [a] := q; cases this; rfl)⟩, fun ⟨r, q⟩ => (by cases q; rfl)⟩
  rw [e, e]
  exact alkL_sw (fun c hc => by rw [List.mem_singleton.mp hc]; exact ha) h
theorem nextM_alk {rs : List Ru} (ok : ∀ r ∈ rs, RuOk r) {m : Md} (hm : OkMd rs m) {x y : List Nat} (h : AlkL rs x y) : nextM rs m x = nextM rs m y := by
  have inO : ∀ r ∈ rs, ∀ c ∈ r.o, ¬ NoIn rs c := fun r hr c hc z => (z.2 r hr).1 hc
  have inC : ∀ r ∈ rs, ∀ c ∈ r.c, ¬ NoIn rs c := fun r hr c hc z => (z.2 r hr).2.1 hc
  match m, hm with
  | none, _ => exact congrArg (nextO rs) (opGo_congr fun r hr => alkL_sw (inO r hr) h)
  | some (k, d, true), _ => rfl
  | some (k, d, false), hm =>
    have hk : k < rs.length := hm.1
    have hr : rs[k]? = some rs[k] := List.getElem?_eq_getElem hk
    have hmem := List.getElem_mem hk
    rw [nextM_in hr, nextM_in hr]
    generalize rs[k] = ru at hr hmem
    have he : (ru.e ≠ [] ∧ x.take 1 = ru.e) ↔ (ru.e ≠ [] ∧ y.take 1 = ru.e) := and_congr_right fun z => by
      have l := (ok ru hmem).e1
      match e : ru.e, z, l with
      | [a], _, _ => exact alkL_one (fun q => (q.2 ru hmem).2.2 (by rw [e]; exact .head _)) h
      | a :: b :: r, _, l => exact absurd l (by simp)
    have hst : stepL ru x d = stepL ru y d := by
      have l := alkL_len h
      unfold stepL
      rw [l]
      refine ite_iff he (ite_iff (and_congr_right fun _ => alkL_sw (fun c hc => (List.mem_append.mp hc).elim (inC ru hmem c) (inC ru hmem c)) h) (ite_iff (and_congr_right fun _ => and_congr (alkL_sw (inO ru hmem) h) (or_congr (not_congr (and_congr_right fun _ => alkL_sw (inC ru hmem) h)) Iff.rfl)) (ite_iff (and_congr_right fun _ => alkL_sw (inC ru hmem) h) (ite_iff (and_congr (alkL_one (fun q => q.1 rfl) h) Iff.rfl) rfl))))
    exact ite_iff he (by rw [hst])
theorem rdM_alk {rs : List Ru} (ok : ∀ r ∈ rs, RuOk r) : ∀ (n : Nat) (m : Md) (x y : List Nat), muMd m x ≤ n → OkMd rs m → AlkL rs x y → rdM rs m x = rdM rs m y := by
  intro n
  induction n using Nat.strongRecOn with
  | ind n ih =>
    intro m x y hn hm h
    by_cases hx : x = []
    · subst hx
      have : y = [] := List.eq_nil_of_length_eq_zero (alkL_len h).symm
      rw [this]
    · have hy : y ≠ [] := fun z => hx (List.eq_nil_of_length_eq_zero (by rw [alkL_len h, z]; rfl))
      have e := nextM_alk ok hm h
      have mu := nextM_mu ok hx hm
      rw [rdM_step ok hx hm, rdM_step ok hy hm, ← e, ih _ (by omega) _ _ _ (Nat.le_refl _) (nextM_pos ok hx hm).1 (alkL_drop _ h)]
theorem kds_alk {rs : List Ru} (ok : ∀ r ∈ rs, RuOk r) {x y : List Nat} (h : AlkL rs x y) : kdsOf rs x = kdsOf rs y := congrArg Prod.snd (rdM_alk ok _ none x y (Nat.le_refl _) trivial h)
end Vf

set_option maxRecDepth 100000
set_option maxHeartbeats 4000000
namespace Vf
open PySem PySem.Spec PyProof.Rows L2 SX
section
variable {P : Program} {w : World} {K : PySem.W.Frag} {mg : Str → Option Value} {base : Heap}
/-! ### the reader's stops are the function's -/
theorem opL_at : ∀ {fs : List Fd} {k i : Nat} {f : Fd}, fs[i]? = some f → (f.op, (((k + i : Nat) : Int)), (1 : Int), (0 : Int)) ∈ opL k fs
  | [], _, _, _, h => by cases h
  | g :: fs, k, 0, f, h => by
    cases h
    exact .head _
  | g :: fs, k, i + 1, f, h => .tail _ (by
    have := opL_at (k := k + 1) (i := i) (f := f) h
    rw [show k + 1 + i = k + (i + 1) by omega] at this
    exact this)
theorem beg_stop {fs : List Fd} {m : Int × Int × Int} {t : List Nat} (hm : ModeOk fs m) (ht : t ≠ []) : BegAt fs m t ↔ stopM (fs.map ruOf) (toMd m) t := by
  have t1 : t.take 1 ≠ [] := fun z => by
    cases t with
    | nil => exact ht rfl
    | cons a b => cases z
  rcases hm with rfl | ⟨n, d, e, hn, hd, hd2, rfl⟩
  · constructor
    · rintro (⟨_, k, hk, hl, hs⟩ | ⟨n, d, f, _, z, _⟩)
      · obtain ⟨n, f, hf, rfl⟩ := opL_mem hk
        exact ⟨ruOf f, List.mem_map_of_mem (List.mem_of_getElem? hf), by rw [TL.len_tl] at hl; exact hl, hs⟩
      · have : (-1 : Int) = (n : Int) := congrArg Prod.fst z
        omega
    · rintro ⟨r, hr, hl, hs⟩
      obtain ⟨f, hf, rfl⟩ := List.mem_map.mp hr
      obtain ⟨i, hi⟩ := List.mem_iff_getElem?.mp hf
      exact .inl ⟨rfl, _, opL_at (k := 0) hi, by rw [TL.len_tl]; exact hl, hs⟩
  · have hf : fs[n]? = some fs[n] := List.getElem?_eq_getElem hn
    generalize fs[n] = f at hf
    have hfr : (fs.map ruOf)[n]? = some (ruOf f) := by rw [List.getElem?_map, hf]; rfl
    cases e with
    | true =>
      rw [if_pos rfl, toMd_in]
      refine ⟨fun h => ?_, fun h => h.elim⟩
      rcases h with ⟨z, _⟩ | ⟨n', d', f', _, z, _⟩
      · have : (n : Int) = -1 := congrArg Prod.fst z
        omega
      · have : (1 : Int) = 0 := congrArg (fun x : Int × Int × Int => x.2.2) z
        omega
    | false =>
      rw [if_neg Bool.false_ne_true, toMd_in]
      have es : S (t.take 1) ≠ f.es ↔ ¬ ((ruOf f).e ≠ [] ∧ t.take 1 = (ruOf f).e) := by
        constructor
        · exact fun h z => h (by rw [z.2]; exact S_tl f.es)
        · intro h z
          have e1 : TL.tl f.es = t.take 1 := by rw [← z, TL.tl_mk]
          exact h ⟨by rw [show (ruOf f).e = TL.tl f.es from rfl, e1]; exact t1, e1.symm⟩
      have mk : BegM (pmL f.op f.cl f.nd f.db n d) t ↔ ∃ mk ∈ marksP (ruOf f) d, t.length < mk.1.length ∧ Sw t mk.1 := by
        rw [← pm_map (n := n) hd]
        constructor
        · rintro ⟨k, hk, hl, hs⟩
          exact ⟨gk k, List.mem_map_of_mem hk, by rw [TL.len_tl] at hl; exact hl, hs⟩
        · rintro ⟨y, hy, hl, hs⟩
          obtain ⟨k, hk, rfl⟩ := List.mem_map.mp hy
          exact ⟨k, hk, by rw [TL.len_tl]; exact hl, hs⟩
      show BegAt fs _ t ↔ ∃ ru, (fs.map ruOf)[n]? = some ru ∧ _
      constructor
      · rintro (⟨z, _⟩ | ⟨n', d', f', h1, z, h2, h3⟩)
        · have : (n : Int) = -1 := congrArg Prod.fst z
          omega
        · have e1 : (n : Int) = (n' : Int) := congrArg Prod.fst z
          have e2 : n = n' := by omega
          have e3 : (d : Int) = (d' : Int) := congrArg (fun x : Int × Int × Int => x.2.1) z
          have e4 : d = d' := by omega
          subst e2
          subst e4
          rw [hf] at h1
          cases h1
          exact ⟨_, hfr, es.mp h2, mk.mp h3⟩
      · rintro ⟨ru, h1, h2, h3⟩
        rw [hfr] at h1
        cases h1
        exact .inr ⟨n, d, f, hf, rfl, es.mpr h2, mk.mpr h3⟩
theorem reach_back {fs : List Fd} (G : FdG fs) {t : List Nat} {m0 m : Int × Int × Int} {pl : Nat} {ks : List Nat} (h0 : ModeOk fs m0) (h : Reach fs t false m0 m pl ks) : ∀ (m' : Md) (w ks' : List Nat), Sd (fs.map ruOf) (toMd m) (t.drop pl) m' w ks' → Sd (fs.map ruOf) (toMd m0) t m' w (ks ++ ks') := by
  induction h with
  | start => exact fun m' w ks' h => h
  | @step m m2 pl w ks kd h1 hlt hst hbg ih =>
    intro m' w' ks' hs
    have i2 := (reach_rd G h0 h1).2.1
    have hne : t.drop pl ≠ [] := fun z => by
      have := List.drop_eq_nil_iff.mp z
      omega
    obtain ⟨o1, o2, o3, o4⟩ := step_on G.ts.t hst hne i2
    have sn := step_next G i2 hne hst
    have nb := hbg.resolve_left Bool.false_ne_true
    have := ih m' w' (List.replicate w ((TL.tl kd).headD 0) ++ ks') (by
      have g := Sd.go (rs := fs.map ruOf) (m := toMd m) (t := t.drop pl) (m' := m') (t' := w') (ks := ks') hne (fun z => nb ((beg_stop i2 hne).mpr z)) (by rw [sn, List.drop_drop]; exact hs)
      rw [sn] at g
      exact g)
    rw [one_tl o4, repL_one, List.append_assoc]
    exact this
/-- what the reader tells of a text that may go on -/
theorem reach_sd {fs : List Fd} (G : FdG fs) {t : List Nat} {m0 m : Int × Int × Int} {pl : Nat} {ks : List Nat} (h0 : ModeOk fs m0) (h : Reach fs t false m0 m pl ks) (he : pl = t.length ∨ BegAt fs m (t.drop pl)) : Sd (fs.map ruOf) (toMd m0) t (toMd m) (t.drop pl) ks ∧ ModeOk fs m ∧ pl ≤ t.length := by
  obtain ⟨i1, i2, _⟩ := reach_rd G h0 h
  have := reach_back G h0 h (toMd m) (t.drop pl) [] (.stop (by
    by_cases c : t.drop pl = []
    · exact .inl c
    · rcases he with e | e
      · exact .inl (by rw [e, List.drop_length])
      · exact .inr ((beg_stop i2 c).mp e)))
  rw [List.append_nil] at this
  exact ⟨this, i2, i1⟩

end
end Vf

set_option maxRecDepth 100000
set_option maxHeartbeats 4000000
namespace Vf
open PySem PySem.Spec PyProof.Rows L2 SX
section
variable {P : Program} {w : World} {K : PySem.W.Frag} {mg : Str → Option Value} {base : Heap}
/-! ### machines, stands, pairs -/
theorem modeI_toMd (m : Md) : toMd (modeI m) = m := by
  match m with
  | none => rfl
  | some (k, d, e) =>
    show toMd ((k : Int), (d : Int), _) = _
    rw [toMd_in]
    cases e <;> rfl
structure Cm (K : PySem.W.Frag) (CM : Addr) : Prop where
  iM : C8.InsC K CM
  m1 : NoAttr K CM "tongue"
  m2 : NoAttr K CM "beginning"
def SdV (fs : List Fd) (H : Hp) (v : V) (m : Md) (w : List Nat) : Prop := ∃ b, v = .ref b ∧ H b = some (.tup [.int (modeI m).1, .int (modeI m).2.1, .int (modeI m).2.2, .str (S w)]) ∧ ModeOk fs (modeI m)
theorem SdV.same {fs : List Fd} {H H' : Hp} {v : V} {m : Md} {w : List Nat} (h : SdV fs H v m w) (s : Same H H') : SdV fs H' v m w := let ⟨b, e, h1, h2⟩ := h; ⟨b, e, s _ _ h1, h2⟩
def sgV : Option Nat → V
  | none => .non
  | some c => .str (S [c])
def sgC : Option Nat → Nat
  | none => 32
  | some c => c
def PrsV (H : Hp) (v : V) (ps : List (Option Nat × Nat)) : Prop := ∃ b us, v = .ref b ∧ H b = some (.tup us) ∧ us.length = ps.length ∧ ∀ (j : Nat) (u : V) (p : Option Nat × Nat), us[j]? = some u → ps[j]? = some p → ∃ c, u = .ref c ∧ H c = some (.tup [sgV p.1, .str (S [p.2])])
theorem PrsV.same {H H' : Hp} {v : V} {ps : List (Option Nat × Nat)} (h : PrsV H v ps) (s : Same H H') : PrsV H' v ps := let ⟨b, us, e, h1, h2, h3⟩ := h
  ⟨b, us, e, s _ _ h1, h2, fun j u p a c => let ⟨d, e1, e2⟩ := h3 j u p a c; ⟨d, e1, s _ _ e2⟩⟩
def rmF (tg b0 : Addr) : List (Str × V) := [("tongue", .ref tg), ("beginning", .ref b0)]
def RmAt (CM : Addr) (H : Hp) (a tg : Addr) : Prop := ∃ dx b0, H a = some (.ins CM dx (rmF tg b0)) ∧ H b0 = some (.tup [.int (-1), .int 0, .int 0, .str ""])
def sp_RM_init (P : Program) (w : World) (K : PySem.W.Frag) (CR CD CG CM : Addr) : Sp := fun vs H Q _ => ∃ (a dx tg : Addr), vs = [.ref a, .ref tg] ∧ H a = some (.ins CM dx []) ∧ ∀ H' : Hp, (∀ b o, b ≠ a → H b = some o → H' b = some o) → RmAt CM H' a tg → Q .non H'
def sp_moved (P : Program) (w : World) (K : PySem.W.Frag) (CR CD CG CM : Addr) : Sp := fun vs H Q _ => ∃ (a tg : Addr) (fs : List Fd) (tx : Str) (v : V) (m : Md) (wt : List Nat) (sg : Option Nat), vs = [.ref a, v, sgV sg] ∧ RmAt CM H a tg ∧ TgQ P w K CR CD CG H tg fs tx ∧ FdG fs ∧ SdV fs H v m wt ∧ wt.length ≤ 1000 ∧
  ∀ (H' : Hp) (r : Addr) (s1 p1 : V) (m' : Md) (w' ks : List Nat), Same H H' → H' r = some (.tup [s1, p1]) → SdV fs H' s1 m' w' → PrsV H' p1 ((wt.map some ++ [sg]).zip ks) → Sd (fs.map ruOf) m (wt ++ [sgC sg]) m' w' ks → Q (.ref r) H'
def sp_ended (P : Program) (w : World) (K : PySem.W.Frag) (CR CD CG CM : Addr) : Sp := fun vs H Q _ => ∃ (a tg : Addr) (fs : List Fd) (tx : Str) (v : V) (m : Md) (wt : List Nat), vs = [.ref a, v] ∧ RmAt CM H a tg ∧ TgQ P w K CR CD CG H tg fs tx ∧ FdG fs ∧ SdV fs H v m wt ∧ wt.length ≤ 1000 ∧
  ∀ (H' : Hp) (p1 : V), Same H H' → PrsV H' p1 ((wt.map some).zip (rdM (fs.map ruOf) m wt).2) → Q p1 H'
def sp_weight : Sp := fun vs H Q _ => ∃ (L : Addr) (qs : List Rr), vs = [.ref L] ∧ RlsX H L qs ∧ QsOk qs ∧ Q (.int ((1 + ((rsQ qs).map wtR).sum : Nat) : Int)) H
def sp_alikeBehind : Sp := fun vs H Q _ => ∃ (L : Addr) (qs : List Rr) (x y u : List Nat) (n : Nat), vs = [.ref L, .str (S x), .str (S y), .str (S u), .int (n : Int)] ∧ RlsX H L qs ∧ QsOk qs ∧ n ≤ x.length ∧ n ≤ y.length ∧ x.length + u.length ≤ 20000 ∧ y.length + u.length ≤ 20000 ∧
  ∀ H' : Hp, Same H H' → Q (.bl (decide ((kdsOf (rsQ qs) (x ++ u)).drop (x.length - n) = (kdsOf (rsQ qs) (y ++ u)).drop (y.length - n)))) H'
theorem prs_of {H : Hp} {b : Addr} {ps us : List V} {gs : List (Option Nat)} {ks : List Nat} (hb : H b = some (.tup ps)) (eu : us = gs.map sgV) (hl : ps.length = min us.length ks.length) (hel : ∀ (j : Nat) (v : V), ps[j]? = some v → ∃ T u c, v = .ref T ∧ us[j]? = some u ∧ ks[j]? = some c ∧ H T = some (.tup [u, .str (S [c])])) : PrsV H (.ref b) (gs.zip ks) := by
  subst eu
  refine ⟨b, ps, rfl, hb, by rw [hl, List.length_zip, List.length_map], fun j u p a c => ?_⟩
  obtain ⟨T, u', c', rfl, h1, h2, h3⟩ := hel j u a
  rw [List.getElem?_zip_eq_some] at c
  obtain ⟨c1, c2⟩ := c
  rw [List.getElem?_map, c1] at h1
  rw [c2] at h2
  cases h1; cases h2
  exact ⟨T, rfl, h3⟩

end
end Vf

set_option maxRecDepth 100000
set_option maxHeartbeats 4000000
namespace Vf
open PySem PySem.Spec PyProof.Rows L2 SX
section
variable {P : Program} {w : World} {K : PySem.W.Frag} {mg : Str → Option Value} {base : Heap}
/-! ### lists of pairs -/
def PrE (H : Hp) (us : List V) (ps : List (Option Nat × Nat)) : Prop := us.length = ps.length ∧ ∀ (j : Nat) (u : V) (p : Option Nat × Nat), us[j]? = some u → ps[j]? = some p → ∃ c, u = .ref c ∧ H c = some (.tup [sgV p.1, .str (S [p.2])])
section
variable {H H' : Hp} {us vs : List V} {ps qs : List (Option Nat × Nat)}
theorem PrE.tk (h : PrE H us ps) (s : ∀ b xs, H b = some (.tup xs) → H' b = some (.tup xs)) : PrE H' us ps := ⟨h.1, fun j u p a c => let ⟨d, e1, e2⟩ := h.2 j u p a c; ⟨d, e1, s _ _ e2⟩⟩
theorem PrE.same (h : PrE H us ps) (s : Same H H') : PrE H' us ps := h.tk fun b xs z => s _ _ z
theorem PrE.app (h : PrE H us ps) (g : PrE H vs qs) : PrE H (us ++ vs) (ps ++ qs) := by
  refine ⟨by rw [List.length_append, List.length_append, h.1, g.1], fun j u p a c => ?_⟩
  have hl := h.1
  rcases Nat.lt_or_ge j us.length with z | z
  · rw [List.getElem?_append_left z] at a
    rw [List.getElem?_append_left (by omega)] at c
    exact h.2 j u p a c
  · rw [List.getElem?_append_right z] at a
    rw [List.getElem?_append_right (by omega), ← hl] at c
    exact g.2 _ u p a c
theorem PrE.one {c : Addr} {p : Option Nat × Nat} (h : H c = some (.tup [sgV p.1, .str (S [p.2])])) : PrE H [.ref c] [p] := ⟨rfl, fun j u q a b => by
  cases j with
  | zero => cases a; cases b; exact ⟨c, rfl, h⟩
  | succ j => cases a⟩
theorem PrE.nil : PrE H [] [] := ⟨rfl, fun _ _ _ z => nomatch z⟩
end
def sp_pairsDue : Sp := fun vs H Q _ => ∃ (L B : Addr) (qs : List Rr) (t : List Nat) (gs : List (Option Nat)), vs = [.ref L, .str (S t), .ref B] ∧ RlsX H L qs ∧ QsOk qs ∧ t.length ≤ 20000 ∧ H B = some (.lst (gs.map sgV)) ∧ gs.length = t.length ∧
  ∀ (H' : Hp) (D : Addr) (us : List V), Same H H' → H' D = some (.lst us) → PrE H' us (gs.zip (kdsOf (rsQ qs) t)) → Q (.ref D) H'
def sp_allPairs : Sp := fun vs H Q _ => ∃ (B : Addr) (ws : List V) (pss : List (List (Option Nat × Nat))), vs = [.ref B] ∧ H B = some (.lst ws) ∧ ws.length = pss.length ∧ (∀ (j : Nat) (v : V) (ps : List (Option Nat × Nat)), ws[j]? = some v → pss[j]? = some ps → PrsV H v ps) ∧ pss.flatten.length ≤ 20000 ∧
  ∀ (H' : Hp) (D : Addr) (us : List V), Same H H' → H' D = some (.lst us) → PrE H' us pss.flatten → Q (.ref D) H'

end
end Vf

set_option maxRecDepth 100000
set_option maxHeartbeats 4000000
namespace Vf
open PySem PySem.Spec PyProof.Rows L2 SX
section
variable {P : Program} {w : World} {K : PySem.W.Frag} {mg : Str → Option Value} {base : Heap}
/-! ### a text fed sign by sign -/
structure Fed (rs : List Ru) (gs : List (Option Nat)) (st : List (Md × List Nat)) (tl : List (List Nat)) : Prop where
  l1 : st.length = gs.length + 1
  l2 : tl.length = gs.length
  z : st[0]? = some (none, [])
  go : ∀ (i : Nat) (g : Option Nat) (p q : Md × List Nat) (ks : List Nat), gs[i]? = some g → st[i]? = some p → st[i + 1]? = some q → tl[i]? = some ks → Sd rs p.1 (p.2 ++ [sgC g]) q.1 q.2 ks
theorem fed_mac {rs : List Ru} {gs : List (Option Nat)} {st : List (Md × List Nat)} {tl : List (List Nat)} (h : Fed rs gs st tl) : ∀ (i : Nat) (p : Md × List Nat), i ≤ gs.length → st[i]? = some p → Mac rs ((gs.take i).map sgC) p.1 p.2 (tl.take i).flatten
  | 0, p, _, hp => by
    rw [h.z] at hp
    cases hp
    exact .start
  | i + 1, p, hi, hp => by
    have l1 := h.l1
    have l2 := h.l2
    have h1 : st[i]? = some st[i] := List.getElem?_eq_getElem (by omega)
    have h2 : gs[i]? = some gs[i] := List.getElem?_eq_getElem (by omega)
    have h3 : tl[i]? = some tl[i] := List.getElem?_eq_getElem (by omega)
    have ih := fed_mac h i st[i] (by omega) h1
    have := Mac.put ih (h.go i _ _ _ _ h2 h1 hp h3)
    rw [List.take_add_one, h2, List.map_append, List.take_add_one, h3, List.flatten_append]
    show Mac rs (_ ++ [sgC gs[i]]) p.1 p.2 (_ ++ ([tl[i]] : List (List Nat)).flatten)
    rw [List.flatten_cons, List.flatten_nil, List.append_nil]
    exact this
theorem fed_snoc {rs : List Ru} {gs : List (Option Nat)} {st : List (Md × List Nat)} {tl : List (List Nat)} {g : Option Nat} {p q : Md × List Nat} {ks : List Nat} (h : Fed rs gs st tl) (hp : st[gs.length]? = some p) (hs : Sd rs p.1 (p.2 ++ [sgC g]) q.1 q.2 ks) : Fed rs (gs ++ [g]) (st ++ [q]) (tl ++ [ks]) := by
  have l1 := h.l1
  have l2 := h.l2
  refine ⟨by rw [List.length_append, List.length_append, l1]; rfl, by rw [List.length_append, List.length_append, l2]; rfl, by rw [List.getElem?_append_left (by omega)]; exact h.z, fun i g' p' q' ks' a b c d => ?_⟩
  rcases Nat.lt_or_ge i gs.length with z | z
  · rw [List.getElem?_append_left z] at a
    rw [List.getElem?_append_left (by omega)] at b c
    rw [List.getElem?_append_left (by omega)] at d
    exact h.go i g' p' q' ks' a b c d
  · have hi : i < (gs ++ [g]).length := (List.getElem?_eq_some_iff.mp a).1
    rw [List.length_append, List.length_singleton] at hi
    have e : i = gs.length := by omega
    subst e
    rw [List.getElem?_append_right (Nat.le_refl _), Nat.sub_self] at a
    rw [List.getElem?_append_left (by omega), hp] at b
    rw [List.getElem?_append_right (by omega), l1, Nat.sub_self] at c
    rw [List.getElem?_append_right (by omega), l2, Nat.sub_self] at d
    cases a; cases b; cases c; cases d
    exact hs
/-- the values of it -/
def StsV (fs : List Fd) (H : Hp) (sv : List V) (st : List (Md × List Nat)) : Prop := sv.length = st.length ∧ ∀ (j : Nat) (v : V) (p : Md × List Nat), sv[j]? = some v → st[j]? = some p → SdV fs H v p.1 p.2
def prsOf (gs : List (Option Nat)) (st : List (Md × List Nat)) (tl : List (List Nat)) (j : Nat) : List (Option Nat × Nat) := ((((st[j]?).getD (none, [])).2.map some ++ [(gs[j]?).getD none]).zip ((tl[j]?).getD []))
def TlsV (H : Hp) (pv : List V) (gs : List (Option Nat)) (st : List (Md × List Nat)) (tl : List (List Nat)) : Prop := pv.length = tl.length ∧ ∀ (j : Nat) (v : V), pv[j]? = some v → PrsV H v (prsOf gs st tl j)
theorem StsV.same {fs : List Fd} {H H' : Hp} {sv : List V} {st : List (Md × List Nat)} (h : StsV fs H sv st) (s : ∀ b xs, H b = some (.tup xs) → H' b = some (.tup xs)) : StsV fs H' sv st := ⟨h.1, fun j v p a c => let ⟨b, e, h1, h2⟩ := h.2 j v p a c; ⟨b, e, s _ _ h1, h2⟩⟩
theorem PrsV.tk {H H' : Hp} {v : V} {ps : List (Option Nat × Nat)} (h : PrsV H v ps) (s : ∀ b xs, H b = some (.tup xs) → H' b = some (.tup xs)) : PrsV H' v ps := let ⟨b, us, e, h1, h2, h3⟩ := h
  ⟨b, us, e, s _ _ h1, h2, fun j u p a c => let ⟨d, e1, e2⟩ := h3 j u p a c; ⟨d, e1, s _ _ e2⟩⟩
theorem TlsV.same {H H' : Hp} {pv : List V} {gs : List (Option Nat)} {st : List (Md × List Nat)} {tl : List (List Nat)} (h : TlsV H pv gs st tl) (s : ∀ b xs, H b = some (.tup xs) → H' b = some (.tup xs)) : TlsV H' pv gs st tl := ⟨h.1, fun j v a => (h.2 j v a).tk s⟩
def sp_fedText (P : Program) (w : World) (K : PySem.W.Frag) (CR CD CG CM : Addr) : Sp := fun vs H Q _ => ∃ (a tg B : Addr) (fs : List Fd) (tx : Str) (gs : List (Option Nat)), vs = [.ref a, .ref B] ∧ RmAt CM H a tg ∧ TgQ P w K CR CD CG H tg fs tx ∧ FdG fs ∧ H B = some (.lst (gs.map sgV)) ∧ gs.length ≤ 1000 ∧
  ∀ (H' : Hp) (r D E : Addr) (sv pv : List V) (st : List (Md × List Nat)) (tl : List (List Nat)), Same H H' → H D = none → H E = none → H' r = some (.tup [.ref D, .ref E]) → H' D = some (.lst sv) → H' E = some (.lst pv) → Fed (fs.map ruOf) gs st tl → StsV fs H' sv st → TlsV H' pv gs st tl → Q (.ref r) H'
theorem sts_snoc {fs : List Fd} {H : Hp} {sv : List V} {st : List (Md × List Nat)} {v : V} {p : Md × List Nat} (h : StsV fs H sv st) (hv : SdV fs H v p.1 p.2) : StsV fs H (sv ++ [v]) (st ++ [p]) := by
  refine ⟨by rw [List.length_append, List.length_append, h.1]; rfl, fun j u q a c => ?_⟩
  have hl := h.1
  rcases Nat.lt_or_ge j sv.length with z | z
  · rw [List.getElem?_append_left z] at a
    rw [List.getElem?_append_left (by omega)] at c
    exact h.2 j u q a c
  · have hi := (List.getElem?_eq_some_iff.mp a).1
    rw [List.length_append, List.length_singleton] at hi
    have e : j = sv.length := by omega
    subst e
    rw [List.getElem?_append_right (Nat.le_refl _), Nat.sub_self] at a
    rw [List.getElem?_append_right (by omega), ← hl, Nat.sub_self] at c
    cases a; cases c
    exact hv
theorem tls_snoc {H : Hp} {pv : List V} {gs : List (Option Nat)} {st : List (Md × List Nat)} {tl : List (List Nat)} {v : V} {g : Option Nat} {p q : Md × List Nat} {ks : List Nat} (h : TlsV H pv gs st tl) (l1 : st.length = gs.length + 1) (l2 : tl.length = gs.length) (hp : st[gs.length]? = some p) (hv : PrsV H v ((p.2.map some ++ [g]).zip ks)) : TlsV H (pv ++ [v]) (gs ++ [g]) (st ++ [q]) (tl ++ [ks]) := by
  refine ⟨by rw [List.length_append, List.length_append, h.1]; rfl, fun j u a => ?_⟩
  have hl := h.1
  rcases Nat.lt_or_ge j pv.length with z | z
  · rw [List.getElem?_append_left z] at a
    have := h.2 j u a
    unfold prsOf at this ⊢
    rw [List.getElem?_append_left (by omega), List.getElem?_append_left (by omega), List.getElem?_append_left (by omega)]
    exact this
  · have hi := (List.getElem?_eq_some_iff.mp a).1
    rw [List.length_append, List.length_singleton] at hi
    have e : j = gs.length := by omega
    subst e
    rw [List.getElem?_append_right (by omega), show gs.length - pv.length = 0 by omega] at a
    cases a
    unfold prsOf
    rw [List.getElem?_append_left (by omega), hp, List.getElem?_append_right (Nat.le_refl _), Nat.sub_self, List.getElem?_append_right (by omega), l2, Nat.sub_self]
    exact hv

end
end Vf

set_option maxRecDepth 100000
set_option maxHeartbeats 4000000
namespace Vf
open PySem PySem.Spec PyProof.Rows L2 SX
section
variable {P : Program} {w : World} {K : PySem.W.Frag} {mg : Str → Option Value} {base : Heap}
/-! ### what a walk tells, put together -/
theorem zip_app {α β : Type} : ∀ (a : List α) (K ks : List β), K.length ≤ a.length → a.zip (K ++ ks) = a.zip K ++ (a.drop K.length).zip ks
  | a, [], ks, _ => by simp
  | [], k :: K, ks, h => by cases h
  | x :: a, k :: K, ks, h => by
    have := zip_app a K ks (by simpa using h)
    simp [this]
theorem zip_tk {α β : Type} : ∀ (n : Nat) (a : List α) (ks : List β), ks.length ≤ n → (a.take n).zip ks = a.zip ks
  | n, a, [], _ => by simp
  | n, [], k :: ks, _ => by simp
  | 0, x :: a, k :: ks, h => by cases h
  | n + 1, x :: a, k :: ks, h => by
    have := zip_tk n a ks (by simpa using h)
    simp [this]
theorem fed_pairs {rs : List Ru} {gs : List (Option Nat)} {st : List (Md × List Nat)} {tl : List (List Nat)} (ok : ∀ r ∈ rs, RuOk r) (h32 : ∀ r ∈ rs, 32 ∉ r.o ∧ 32 ∉ r.c) (h : Fed rs gs st tl) : ∀ (i : Nat) (p : Md × List Nat), i ≤ gs.length → st[i]? = some p → p.2.map some = (gs.take i).drop (tl.take i).flatten.length ∧ ((List.range i).map (prsOf gs st tl)).flatten = gs.zip (tl.take i).flatten
  | 0, p, _, hp => by
    rw [h.z] at hp
    cases hp
    exact ⟨rfl, by simp⟩
  | i + 1, p, hi, hp => by
    have l1 := h.l1
    have l2 := h.l2
    have h1 : st[i]? = some st[i] := List.getElem?_eq_getElem (by omega)
    have h2 : gs[i]? = some gs[i] := List.getElem?_eq_getElem (by omega)
    have h3 : tl[i]? = some tl[i] := List.getElem?_eq_getElem (by omega)
    obtain ⟨ih1, ih2⟩ := fed_pairs ok h32 h i st[i] (by omega) h1
    have mc := fed_mac h i st[i] (by omega) h1
    have mc1 := fed_mac h (i + 1) p hi hp
    have sd := h.go i _ _ _ _ h2 h1 hp h3
    obtain ⟨a1, a2, _, _, _⟩ := mac_all ok mc
    obtain ⟨_, b2, b3, _, _⟩ := sd_more ok sd a1
    rw [List.length_map, List.length_take] at a2
    rw [List.length_append, List.length_singleton] at b2
    generalize hK : (tl.take i).flatten = K at ih1 ih2 mc a2
    have hK1 : (tl.take (i + 1)).flatten = K ++ tl[i] := by
      rw [List.take_add_one, h3, List.flatten_append, hK]
      show _ ++ ([tl[i]] : List (List Nat)).flatten = _
      rw [List.flatten_cons, List.flatten_nil, List.append_nil]
    have hg1 : gs.take (i + 1) = gs.take i ++ [gs[i]] := by rw [List.take_add_one, h2]; rfl
    generalize hk : tl[i] = ks at h3 sd b2 b3 hK1
    have hd : (gs.take (i + 1)).drop K.length = st[i].2.map some ++ [gs[i]] := by
      rw [hg1, List.drop_append_of_le_length (by rw [List.length_take]; omega), ← ih1]
    have e : ((gs.take (i + 1)).drop (K ++ ks).length) = (st[i].2.map some ++ [gs[i]]).drop ks.length := by
      rw [List.length_append, ← List.drop_drop, hd]
    refine ⟨?_, ?_⟩
    · rw [hK1, e, b3]
      cases hg : gs[i] with
      | some c =>
        show ((st[i].2 ++ [c]).drop ks.length).map some = _
        rw [List.map_drop, List.map_append]
        rfl
      | none =>
        have mt : (gs.take (i + 1)).map sgC = (gs.take i).map sgC ++ [32] := by rw [hg1, hg, List.map_append]; rfl
        rw [mt] at mc1
        have hw := mac_plain ok h32 mc1
        rw [hw] at b2
        have lz : ks.length = st[i].2.length + 1 := by simpa using b2
        rw [List.drop_of_length_le (by rw [List.length_append, List.length_singleton]; omega), List.drop_of_length_le (by rw [List.length_append, List.length_map, List.length_singleton]; omega)]
        rfl
    · have ep : prsOf gs st tl i = (gs.drop K.length).zip ks := by
        unfold prsOf
        rw [h1, h2, h3]
        show (st[i].2.map some ++ [gs[i]]).zip ks = _
        rw [← hd, List.drop_take]
        exact zip_tk _ _ _ (by omega)
      rw [List.range_succ, List.map_append, List.flatten_append, ih2, hK1]
      show _ ++ ([prsOf gs st tl i] : List (List (Option Nat × Nat))).flatten = _
      rw [List.flatten_cons, List.flatten_nil, List.append_nil, ep, zip_app _ _ _ (by omega)]
/-- all that is told, the end's last -/
theorem fed_all {rs : List Ru} {gs : List (Option Nat)} {st : List (Md × List Nat)} {tl : List (List Nat)} (ok : ∀ r ∈ rs, RuOk r) (h32 : ∀ r ∈ rs, 32 ∉ r.o ∧ 32 ∉ r.c) (h : Fed rs gs st tl) {m : Md} {w : List Nat} (hp : st[gs.length]? = some (m, w)) : ((List.range gs.length).map (prsOf gs st tl)).flatten ++ (w.map some).zip (rdM rs m w).2 = gs.zip (kdsOf rs (gs.map sgC)) := by
  obtain ⟨e1, e2⟩ := fed_pairs ok h32 h gs.length (m, w) (Nat.le_refl _) hp
  have mc := fed_mac h gs.length _ (Nat.le_refl _) hp
  rw [List.take_of_length_le (Nat.le_refl _)] at mc e1
  have e3 := mac_kinds ok mc
  have a2 := (mac_all ok mc).2.1
  rw [List.length_map] at a2
  dsimp only at e1 e3 a2
  rw [e2, e3, e1, zip_app _ _ _ (by omega)]
/-- how many are told -/
theorem fed_many {rs : List Ru} {gs : List (Option Nat)} {st : List (Md × List Nat)} {tl : List (List Nat)} (ok : ∀ r ∈ rs, RuOk r) (h : Fed rs gs st tl) {i : Nat} (hi : i < gs.length) {ks : List Nat} (hk : tl[i]? = some ks) : (prsOf gs st tl i).length = ks.length := by
  have l1 := h.l1
  have l2 := h.l2
  have h1 : st[i]? = some st[i] := List.getElem?_eq_getElem (by omega)
  have h1' : st[i + 1]? = some st[i + 1] := List.getElem?_eq_getElem (by omega)
  have h2 : gs[i]? = some gs[i] := List.getElem?_eq_getElem (by omega)
  have mc := fed_mac h i _ (by omega) h1
  have a1 := (mac_all ok mc).1
  have b2 := (sd_more ok (h.go i _ _ _ _ h2 h1 h1' hk) a1).2.1
  rw [List.length_append, List.length_singleton] at b2
  unfold prsOf
  rw [h1, hk]
  show ((st[i].2.map some ++ _).zip ks).length = _
  rw [List.length_zip, List.length_append, List.length_map, List.length_singleton]
  omega
/-- behind a plain sign all is told -/
theorem fed_plain {rs : List Ru} {gs : List (Option Nat)} {st : List (Md × List Nat)} {tl : List (List Nat)} (ok : ∀ r ∈ rs, RuOk r) (h : Fed rs gs st tl) {i : Nat} {g : Option Nat} (hg : gs[i]? = some g) (hc : ∀ r ∈ rs, sgC g ∉ r.o ∧ sgC g ∉ r.c) : (tl.take (i + 1)).flatten.length = i + 1 := by
  have hi := (List.getElem?_eq_some_iff.mp hg).1
  have l1 := h.l1
  have h1' : st[i + 1]? = some st[i + 1] := List.getElem?_eq_getElem (by omega)
  have mc := fed_mac h (i + 1) _ (by omega) h1'
  have a2 := (mac_all ok mc).2.1
  have mt : (gs.take (i + 1)).map sgC = (gs.take i).map sgC ++ [sgC g] := by rw [List.take_add_one, hg, List.map_append]; rfl
  have mc' := mc
  rw [mt] at mc'
  rw [mac_plain ok hc mc', List.length_map, List.length_take] at a2
  have : ([] : List Nat).length = 0 := rfl
  omega
/-- signs alike: one sign more, the same behind, the first of them -/
theorem alkL_app {rs : List Ru} : ∀ {x y : List Nat} (u : List Nat), AlkL rs x y → AlkL rs (x ++ u) (y ++ u)
  | [], [], u, _ => by
    show AlkL rs u u
    induction u with
    | nil => trivial
    | cons a u ih => exact ⟨.inl rfl, ih⟩
  | a :: x, b :: y, u, h => ⟨h.1, alkL_app u h.2⟩
theorem alkL_take {rs : List Ru} : ∀ (n : Nat) {x y : List Nat}, AlkL rs x y → AlkL rs (x.take n) (y.take n)
  | 0, _, _, _ => trivial
  | n + 1, [], [], _ => trivial
  | n + 1, a :: x, b :: y, h => ⟨h.1, alkL_take n h.2⟩
/-- the signs of a text, one letter hidden -/
def hid (b : Bool) (t : List Nat) : List (Option Nat) := t.map fun c => if c = 97 ∧ b = true then none else some c
theorem hid_len (b : Bool) (t : List Nat) : (hid b t).length = t.length := List.length_map ..
theorem hid_take (b : Bool) (t : List Nat) (k : Nat) : (hid b t).take k = hid b (t.take k) := by unfold hid; rw [List.map_take]
theorem hid_alk {rs : List Ru} (h97 : NoIn rs 97) (h32 : NoIn rs 32) (b : Bool) : ∀ t : List Nat, AlkL rs t ((hid b t).map sgC)
  | [] => trivial
  | c :: t => by
    refine ⟨?_, hid_alk h97 h32 b t⟩
    show Alk rs c (sgC (if c = 97 ∧ b = true then none else some c))
    by_cases h : c = 97 ∧ b = true
    · rw [if_pos h, h.1]; exact .inr ⟨h97, h32⟩
    · rw [if_neg h]; exact .inl rfl
theorem mk_noin {qs : List Rr} (ok : QsOk qs) {c : Nat} (hc : c ∉ mkL) : ∀ r ∈ rsQ qs, c ∉ r.o ∧ c ∉ r.c ∧ c ∉ r.e := by
  intro r hr
  obtain ⟨q, hq, rfl⟩ := List.mem_map.mp hr
  have o := ok.1 q hq
  have key : ∀ x : Str, isMk x = true → c ∉ TL.tl x := fun x hx z => by
    unfold isMk at hx
    rw [Bool.and_eq_true, Bool.and_eq_true] at hx
    exact hc (of_decide_eq_true (List.all_eq_true.mp hx.2.2 c z))
  have nil : ∀ x : Str, x = "" → c ∉ TL.tl x := fun x hx z => by
    rw [tl_nil.mpr hx] at z
    cases z
  exact ⟨key _ o.ho, o.hc.elim (nil _) (key _), o.he.elim (nil _) fun z => key _ z.1⟩
theorem mk_no {qs : List Rr} (ok : QsOk qs) {c : Nat} (hc : c ∉ mkL) (h10 : c ≠ 10) : NoIn (rsQ qs) c := ⟨h10, mk_noin ok hc⟩
theorem no32 {qs : List Rr} (ok : QsOk qs) : ∀ r ∈ rsQ qs, 32 ∉ r.o ∧ 32 ∉ r.c := fun r hr => have z := mk_noin ok (show 32 ∉ mkL by decide) r hr
  ⟨z.1, z.2.1⟩
/-- a plain sign is in no mark, hidden or not -/
theorem plain_no {qs : List Rr} (ok : QsOk qs) (b : Bool) {c : Nat} (hc : c ∈ ([97, 98, 122, 10, 32] : List Nat)) : ∀ r ∈ rsQ qs, sgC (if c = 97 ∧ b = true then none else some c) ∉ r.o ∧ sgC (if c = 97 ∧ b = true then none else some c) ∉ r.c := by
  intro r hr
  by_cases h : c = 97 ∧ b = true
  · rw [if_pos h]; exact no32 ok r hr
  · rw [if_neg h]
    have : c ∉ mkL := by
      simp only [List.mem_cons, List.not_mem_nil, or_false] at hc
      rcases hc with rfl | rfl | rfl | rfl | rfl <;> decide
    have z := mk_noin ok this r hr
    exact ⟨z.1, z.2.1⟩
/-! ### lists of pairs as data -/
def dSg : Option Nat → PyData
  | none => .none
  | some c => .str (S [c])
def dPr (p : Option Nat × Nat) : PyData := .tuple [dSg p.1, .str (S [p.2])]
theorem sg_dp {K : PySem.W.Frag} {H : Hp} (o : Option Nat) : Dp K H (sgV o) (dSg o) := by
  cases o with
  | none => exact .non
  | some c => exact .str _
theorem prE_dp {K : PySem.W.Frag} {H : Hp} : ∀ {us : List V} {ps : List (Option Nat × Nat)}, PrE H us ps → DpAll K H us (ps.map dPr)
  | [], [], _ => .nil
  | [], p :: ps, h => by cases h.1
  | u :: us, [], h => by cases h.1
  | u :: us, p :: ps, h => by
    obtain ⟨c, rfl, hc⟩ := h.2 0 u p rfl rfl
    exact .cons (.tup (SqT.of hc) (.cons (sg_dp _) (.cons (.str _) .nil))) (prE_dp ⟨Nat.succ.inj h.1, fun j v q a b => h.2 (j + 1) v q a b⟩)
def PrSm (ps : List (Option Nat × Nat)) : Prop := ∀ p ∈ ps, (∀ c, p.1 = some c → c < 1000) ∧ p.2 < 1000
theorem sg_short {c : Nat} (h : c < 1000) : PyData.leavesShort 8 (.str (S [c])) = true := by
  simp only [PyData.leavesShort, List.all_eq_true, decide_eq_true_eq]
  intro x hx
  have : x ∈ TL.tl (S [c]) := hx
  rw [TL.tl_mk] at this
  rw [List.mem_singleton.mp this]
  exact Nat.lt_trans h (by decide)
theorem sg_bulk (c : Nat) : PyData.bulk (.str (S [c])) = 1 := by simp only [PyData.bulk]; rfl
theorem prs_show : ∀ {ps : List (Option Nat × Nat)}, PrSm ps → PyData.showableAll (ps.map dPr) = true ∧ PyData.hasDictAll (ps.map dPr) = false ∧ PyData.depthAll (ps.map dPr) ≤ 4 ∧ PyData.leavesShortAll 8 (ps.map dPr) = true ∧ PyData.bulkAll (ps.map dPr) ≤ 10 * ps.length
  | [], _ => ⟨by simp [PyData.showableAll], by simp [PyData.hasDictAll], by simp [PyData.depthAll], by simp [PyData.leavesShortAll], by simp [PyData.bulkAll]⟩
  | (o, k) :: ps, h => by
    obtain ⟨h1, h2, h3, h4, h5⟩ := prs_show (ps := ps) fun x hx => h x (List.mem_cons_of_mem _ hx)
    obtain ⟨g1, g2⟩ := h _ (List.mem_cons_self ..)
    have hk := sg_short g2
    have bk := sg_bulk k
    cases o with
    | none =>
      refine ⟨by simp [PyData.showableAll, dPr, dSg, PyData.showable, h1], by simp [PyData.hasDictAll, dPr, dSg, PyData.hasDict, h2], ?_, ?_, ?_⟩
      · simp only [List.map_cons, dPr, dSg, PyData.depthAll, PyData.depth]; omega
      · simp only [List.map_cons, dPr, dSg, PyData.leavesShortAll, h4, Bool.and_true]
        have : PyData.leavesShort 8 (.tuple [.none, .str (S [k])]) = true := by
          rw [PyData.leavesShort, PyData.leavesShortAll, PyData.leavesShortAll, PyData.leavesShortAll, hk, PyData.leavesShort]; rfl
        exact this
      · simp only [List.map_cons, dPr, dSg, PyData.bulkAll, List.length_cons]
        have : PyData.bulk (.tuple [.none, .str (S [k])]) = 3 := by
          rw [PyData.bulk, PyData.bulkAll, PyData.bulkAll, PyData.bulkAll, bk, PyData.bulk]
        rw [this]; omega
    | some c =>
      have hc := sg_short (g1 c rfl)
      have bc := sg_bulk c
      refine ⟨by simp [PyData.showableAll, dPr, dSg, PyData.showable, h1], by simp [PyData.hasDictAll, dPr, dSg, PyData.hasDict, h2], ?_, ?_, ?_⟩
      · simp only [List.map_cons, dPr, dSg, PyData.depthAll, PyData.depth]; omega
      · simp only [List.map_cons, dPr, dSg, PyData.leavesShortAll, h4, Bool.and_true]
        have : PyData.leavesShort 8 (.tuple [.str (S [c]), .str (S [k])]) = true := by
          rw [PyData.leavesShort, PyData.leavesShortAll, PyData.leavesShortAll, PyData.leavesShortAll, hk, hc]; rfl
        exact this
      · simp only [List.map_cons, dPr, dSg, PyData.bulkAll, List.length_cons]
        have : PyData.bulk (.tuple [.str (S [c]), .str (S [k])]) = 4 := by
          rw [PyData.bulk, PyData.bulkAll, PyData.bulkAll, PyData.bulkAll, bk, bc]
        rw [this]; omega
theorem prs_shown {ps : List (Option Nat × Nat)} (h : PrSm ps) (hl : ps.length ≤ 1000) : (PyData.list (ps.map dPr)).showable = true ∧ (PyData.list (ps.map dPr)).hasDict = false ∧ (PyData.list (ps.map dPr)).depth ≤ 40 ∧ (PyData.list (ps.map dPr)).shown.length ≤ sizeLine := by
  obtain ⟨h1, h2, h3, h4, h5⟩ := prs_show h
  refine ⟨by simp only [PyData.showable]; exact h1, by simp only [PyData.hasDict]; exact h2, by simp only [PyData.depth]; omega, ?_⟩
  have b := PyData.shown_le_bulk 8 (by decide) (.list (ps.map dPr)) (by simp only [PyData.leavesShort]; exact h4)
  simp only [PyData.bulk] at b
  have e : (2000000 : Nat) ≤ sizeLine := by decide
  omega
theorem next_small {rs : List Ru} (h : ∀ r ∈ rs, r.k < 1000) (m : Md) (t : List Nat) : (nextM rs m t).2.2 < 1000 := by
  have hk : ∀ k, kOf rs k < 1000 := fun k => by
    unfold kOf
    split
    · exact h _ (List.mem_of_getElem? (by assumption))
    · decide
  match m with
  | none =>
    show (nextO rs (openL rs t)).2.2 < 1000
    match openL rs t with
    | (none, _) => exact (by decide : 99 < 1000)
    | (some k, m) => exact hk k
  | some (k, dep, true) => exact hk k
  | some (k, dep, false) =>
    cases e : rs[k]? with
    | none =>
      show (match rs[k]? with | none => ((none, 1, 99) : Md × Nat × Nat) | some ru => _).2.2 < 1000
      rw [e]; exact (by decide : 99 < 1000)
    | some ru =>
      rw [nextM_in e]
      split <;> exact hk k
theorem rdF_small {rs : List Ru} (h : ∀ r ∈ rs, r.k < 1000) : ∀ (f : Nat) (m : Md) (t : List Nat), ∀ c ∈ (rdF rs f m t).2, c < 1000
  | 0, _, _, _, z => nomatch z
  | _ + 1, _, [], _, z => nomatch z
  | f + 1, m, c :: r, x, z => by
    have z : x ∈ List.replicate (nextM rs m (c :: r)).2.1 (nextM rs m (c :: r)).2.2 ++ (rdF rs f (nextM rs m (c :: r)).1 ((c :: r).drop (nextM rs m (c :: r)).2.1)).2 := z
    rcases List.mem_append.mp z with z | z
    · rw [(List.mem_replicate.mp z).2]; exact next_small h _ _
    · exact rdF_small h f _ _ x z
theorem kds_small (qs : List Rr) (t : List Nat) : ∀ c ∈ kdsOf (rsQ qs) t, c < 1000 := rdF_small (fun r hr => by
  obtain ⟨q, _, rfl⟩ := List.mem_map.mp hr
  show (TL.tl (⟨#[if q.k = "remark" then 114 else 113]⟩ : Str)).headD 0 < 1000
  split <;> exact by decide) _ _ _
theorem penN {H H' : Hp} {p c : Addr} {m : Nat} (h : PenAt H p c m) (e : LamX.ExtN H H') : PenAt H' p c m := by
  obtain ⟨ns, a, d, t, f, h1, h2, r⟩ := h
  exact ⟨ns, a, d, t, f, e _ _ h1 (fun _ z => nomatch z), e _ _ h2 (fun _ z => nomatch z), r⟩
def sp_walkRight : Sp := fun vs H Q _ => ∃ (L B E0 : Addr) (qs : List Rr) (t : List Nat) (b : Bool) (pv : List V) (e : V) (st : List (Md × List Nat)) (tl : List (List Nat)) (m : Md) (w : List Nat), vs = [.ref L, .str (S t), .ref B, .ref E0, e] ∧ RlsX H L qs ∧ QsOk qs ∧ t.length ≤ 1000 ∧ (∀ c ∈ t, c < 1000) ∧ H B = some (.lst ((hid b t).map sgV)) ∧ H E0 = some (.lst pv) ∧ Fed (rsQ qs) (hid b t) st tl ∧ TlsV H pv (hid b t) st tl ∧ st[t.length]? = some (m, w) ∧ PrsV H e ((w.map some).zip (rdM (rsQ qs) m w).2) ∧
  ∀ H' : Hp, Same H H' → Q (.bl true) H'

end
end Vf

set_option maxRecDepth 100000
set_option maxHeartbeats 4000000
namespace Vf
open PySem PySem.Spec PyProof.Rows L2 SX
section
variable {P : Program} {w : World} {K : PySem.W.Frag} {mg : Str → Option Value} {base : Heap}
theorem wt_int (r : Rr) (h : RrOk r) : ((wtR (ruR r) : Nat) : Int) = (r.o.length : Int) - 1 + (if (r.d : Int) > 1 then (r.d : Int) else 1) * (1 + ((if r.c = "" then 0 else if r.db = true then 2 * (r.c.length : Int) - 1 else (r.c.length : Int) - 1) + (if (r.d : Int) > 0 then (r.o.length : Int) - 1 else 0) + (if r.e = "" then 0 else 1))) := by
  have lo := (mk_len h.ho).1
  have eo : (ruR r).o.length = r.o.length := (TL.len_tl r.o).symm
  have ec : (ruR r).c.length = r.c.length := (TL.len_tl r.c).symm
  have e0 : ("" : Str).length = 0 := by decide +kernel
  have hm : ((manyR (ruR r) : Nat) : Int) = (if r.c = "" then 0 else if r.db = true then 2 * (r.c.length : Int) - 1 else (r.c.length : Int) - 1) + (if (r.d : Int) > 0 then (r.o.length : Int) - 1 else 0) + (if r.e = "" then 0 else 1) := by
    have a1 : ((if (ruR r).db = true then 2 * (ruR r).c.length - 1 else (ruR r).c.length - 1 : Nat) : Int) = (if r.c = "" then 0 else if r.db = true then 2 * (r.c.length : Int) - 1 else (r.c.length : Int) - 1) := by
      rw [ec]
      show ((if r.db = true then 2 * r.c.length - 1 else r.c.length - 1 : Nat) : Int) = _
      by_cases c : r.c = ""
      · rw [if_pos c, c, e0]
        split <;> rfl
      · rw [if_neg c]
        have l : 1 ≤ r.c.length := (h.hc.elim (fun z => absurd z c) fun z => (mk_len z).1)
        split <;> omega
    have a2 : ((if 0 < (ruR r).d then (ruR r).o.length - 1 else 0 : Nat) : Int) = (if (r.d : Int) > 0 then (r.o.length : Int) - 1 else 0) := by
      rw [eo]
      show ((if 0 < r.d then r.o.length - 1 else 0 : Nat) : Int) = _
      by_cases c : 0 < r.d
      · rw [if_pos c, if_pos (by omega)]; omega
      · rw [if_neg c, if_neg (by omega)]; rfl
    have a3 : ((if (ruR r).e ≠ [] then 1 else 0 : Nat) : Int) = (if r.e = "" then 0 else 1) := by
      by_cases c : r.e = ""
      · rw [if_pos c, if_neg (fun z => z (tl_nil.mpr c))]; rfl
      · rw [if_neg c, if_pos (show (ruR r).e ≠ [] from fun z => c (tl_nil.mp z))]; rfl
    unfold manyR
    rw [← a1, ← a2, ← a3]
    omega
  unfold wtR
  rw [← hm, eo]
  have ed : (ruR r).d = r.d := rfl
  rw [ed]
  have a4 : ((max r.d 1 : Nat) : Int) = (if (r.d : Int) > 1 then (r.d : Int) else 1) := by
    split <;> omega
  have e5 : ((1 + manyR (ruR r) : Nat) : Int) = 1 + (manyR (ruR r) : Int) := by omega
  rw [← a4, Int.natCast_add, Int.natCast_mul, e5]
  omega
theorem ok_weight {f : Addr} {fd : FuncData} (F : C8.Def K mg "_law_weight" s_weight f fd) (b : Binds K fd ["_law_rules"] []) (T : Tx K w mg)  : C8.Cal P w K mg base 1 "_law_weight" sp_weight [] := by
  refine C8.cal0 F b .nil sc_weight (fun vs H Q E h => ?_) (fun cdv A outer s H vs Q E hr h => ?_)
  · obtain ⟨_, _, rfl, _⟩ := h; rfl
  have hu := hu_of hr
  refine ⟨_, (pss_cons (ps_set (i := 1) sc_weight.nd rfl (Or.inl rfl) pe_int)
      (pss_cons (ps_for PassesOwn.never rfl (pi_list (pv 0)) (pg_tup rfl (pgs_cons (pg_name (i := 2) sc_weight.nd rfl (Or.inl rfl)) (pgs_cons (pg_name (i := 3) sc_weight.nd rfl (Or.inl rfl)) (pgs_cons (pg_name (i := 4) sc_weight.nd rfl (Or.inl rfl)) (pgs_cons (pg_name (i := 5) sc_weight.nd rfl (Or.inl rfl)) (pgs_cons (pg_name (i := 6) sc_weight.nd rfl (Or.inl rfl)) (pgs_cons (pg_name (i := 7) sc_weight.nd rfl (Or.inl rfl)) (pgs_cons (pg_name (i := 8) sc_weight.nd rfl (Or.inl rfl)) pgs_nil))))))))
      (C8.pss_cut (ps_set (i := 9) sc_weight.nd rfl (Or.inl rfl) (pe_ifExp (pt_cmpR op_eq (pv 4) pe_str (nomark _)) pe_int (pe_ifExp (pt_val (pv 7)) (pe_op op_sub (pe_op op_mul pe_int (pe_callB call_len (by rfl) T.z_len PySem.boot_len (pa_cons (pv 4) pa_nil))) pe_int) (pe_op op_sub (pe_callB call_len (by rfl) T.z_len PySem.boot_len (pa_cons (pv 4) pa_nil)) pe_int))))
      (C8.pss_cut (ps_set (i := 9) sc_weight.nd rfl (Or.inl rfl) (pe_op op_add (pe_op op_add (pv 9) (pe_ifExp (pt_cmpR op_gt (pv 5) pe_int (nomark _)) (pe_op op_sub (pe_callB call_len (by rfl) T.z_len PySem.boot_len (pa_cons (pv 3) pa_nil)) pe_int) pe_int)) (pe_ifExp (pt_cmpR op_ne (pv 6) pe_str (nomark _)) pe_int pe_int)))
      (pss_one (ps_set (i := 1) sc_weight.nd rfl (Or.inl rfl) (pe_op op_add (pe_op op_sub (pe_op op_add (pv 1) (pe_callB call_len (by rfl) T.z_len PySem.boot_len (pa_cons (pv 3) pa_nil))) pe_int) (pe_op op_mul (pe_callB (call_max2 rfl) (by rfl) T.z_max (by decide +kernel) (pa_cons pe_int (pa_cons (pv 5) pa_nil))) (pe_op op_add pe_int (pv 9)))))))))
      (pss_one (ps_ret (pv 1))))), ?_⟩

  obtain ⟨L, qs, rfl, hL, ok, q⟩ := h
  obtain ⟨rs, hr1, hl, hat⟩ := id hL
  refine ⟨_, rfl, L, rfl, ⟨_, SqL.of hr1⟩, ?_⟩
  refine for_list (K := K) (a := L) (xs := rs) (fun i σ H' => H' = H ∧ ∃ (v2 v3 v4 v5 v6 v7 v8 v9 : Option V), σ = [some (.ref L), some (.int ((1 + (((rsQ qs).take i).map wtR).sum : Nat) : Int)), v2, v3, v4, v5, v6, v7, v8, v9]) ⟨rfl, none, none, none, none, none, none, none, none, rfl⟩ (fun i σ H' _ ⟨z, _⟩ => by rw [z]; exact SqL.of hr1) ?_ ?_
  · rintro i x σ H1 hx ⟨rfl, v2, v3, v4, v5, v6, v7, v8, v9, rfl⟩
    have hil : i < qs.length := by rw [← hl]; exact (List.getElem?_eq_some_iff.mp hx).1
    have hq : qs[i]? = some qs[i] := List.getElem?_eq_getElem hil
    obtain ⟨a, rfl, ha, ro⟩ := hat i x _ hx hq
    generalize qs[i] = r at hq ha ro
    refine ⟨a, _, rfl, SqT.of ha, rfl, _, _, rfl, _, _, rfl, _, _, rfl, _, _, rfl, _, _, rfl, _, _, rfl, _, _, rfl, rfl, ?_⟩
    let W1 : Int := if r.c = "" then 0 else if r.db = true then 2 * (r.c.length : Int) - 1 else (r.c.length : Int) - 1
    let W2 : Int := W1 + (if (r.d : Int) > 0 then (r.o.length : Int) - 1 else 0) + (if r.e = "" then 0 else 1)
    have lo := mk_len ro.ho
    have lc : r.c.length ≤ 4 := ro.hc.elim (fun z => by rw [z]; decide +kernel) fun z => (mk_len z).2
    let σ9 : V → L2.St := fun x => [some (.ref L), some (.int ((1 + (((rsQ qs).take i).map wtR).sum : Nat) : Int)), some (.str r.k), some (.str r.o), some (.str r.c), some (.int (r.d : Int)), some (.str r.e), some (.bl r.db), some (.bl r.ln), some x]
    refine ⟨fun σ' H' => H' = H1 ∧ σ' = σ9 (.int W1), ?_, ?_⟩
    · refine ⟨_, rfl, rfl, _, rfl, ?_⟩
      by_cases c : r.c = ""
      · refine ify (decide_eq_true (by rw [c])) ⟨rfl, ?_⟩
        show _ = [_, _, _, _, _, _, _, _, _, some (V.int W1)]
        simp only [W1, if_pos c]; rfl
      · refine ifn (decide_eq_false (fun z => c (V.str.inj z))) ⟨_, rfl, _, rfl, ?_⟩
        cases e : r.db with
        | true =>
          refine ifT ⟨_, rfl, _, r.c.length, rfl, ⟨szB (by omega), rfl⟩, _, _, rfl, rfl, .inl ⟨by decide, by decide⟩, _, _, rfl, rfl, rfl, ?_⟩
          show _ = [_, _, _, _, _, _, _, _, _, some (V.int W1)]
          simp only [W1, if_neg c, e, if_true]; rfl
        | false =>
          refine ifF ⟨_, rfl, _, r.c.length, rfl, ⟨szB (by omega), rfl⟩, _, _, rfl, rfl, rfl, ?_⟩
          show _ = [_, _, _, _, _, _, _, _, _, some (V.int W1)]
          simp only [W1, if_neg c, e, Bool.false_eq_true, if_false]; rfl
    rintro σ' H' ⟨rfl, rfl⟩
    have sh : ∀ (x y : Int), x = (if (r.d : Int) > 0 then (r.o.length : Int) - 1 else 0) → y = (if r.e = "" then 0 else 1) → List.set (σ9 (.int W1)) 9 (some (V.int (W1 + x + y))) = σ9 (.int W2) := fun x y hx hy => by
      rw [hx, hy]; rfl
    refine ⟨fun σ' H'' => H'' = H' ∧ σ' = σ9 (.int W2), ?_, ?_⟩
    · refine ⟨_, rfl, _, rfl, _, _, rfl, rfl, _, rfl, ?_⟩
      by_cases cd : (r.d : Int) > 0
      · refine ify (decide_eq_true cd) ?_
        refine ⟨_, rfl, _, r.o.length, rfl, ⟨szB (by omega), rfl⟩, _, _, rfl, rfl, _, _, rfl, rfl, _, rfl, rfl, _, rfl, ?_⟩
        by_cases ce : r.e = ""
        · refine ifn (by rw [ce, decide_eq_true rfl]; rfl) ?_
          exact ⟨_, _, rfl, rfl, rfl, sh _ 0 (by rw [if_pos cd]) (by rw [if_pos ce])⟩
        · refine ify (by rw [decide_eq_false (fun z => ce (V.str.inj z))]; rfl) ?_
          exact ⟨_, _, rfl, rfl, rfl, sh _ 1 (by rw [if_pos cd]) (by rw [if_neg ce])⟩
      · refine ifn (decide_eq_false cd) ?_
        refine ⟨_, _, rfl, rfl, _, rfl, rfl, _, rfl, ?_⟩
        by_cases ce : r.e = ""
        · refine ifn (by rw [ce, decide_eq_true rfl]; rfl) ?_
          exact ⟨_, _, rfl, rfl, rfl, sh 0 0 (by rw [if_neg cd]) (by rw [if_pos ce])⟩
        · refine ify (by rw [decide_eq_false (fun z => ce (V.str.inj z))]; rfl) ?_
          exact ⟨_, _, rfl, rfl, rfl, sh 0 1 (by rw [if_neg cd]) (by rw [if_neg ce])⟩
    rintro σ' H'' ⟨rfl, rfl⟩
    have e9 := wt_int r ro
    have eS : (((rsQ qs).take (i + 1)).map wtR).sum = (((rsQ qs).take i).map wtR).sum + wtR (ruR r) := by
      have : (rsQ qs)[i]? = some (ruR r) := by show (qs.map ruR)[i]? = _; rw [List.getElem?_map, hq]; rfl
      rw [List.take_add_one, this, List.map_append, List.sum_append]
      show _ + (wtR (ruR r) + 0) = _
      omega
    refine ⟨_, rfl, _, rfl, _, r.o.length, rfl, ⟨szB (by omega), rfl⟩, _, _, rfl, rfl, _, _, rfl, rfl, ?_⟩
    have hd4 : r.d ≤ 4 := by rcases ro.hd with y | ⟨y, _⟩ <;> omega
    refine ⟨_, rfl, _, _, rfl, _, rfl, _, _, rfl, rfl, _, _, rfl, rfl, .inl ?_, _, _, rfl, rfl, rfl, some (.str r.k), some (.str r.o), some (.str r.c), some (.int (r.d : Int)), some (.str r.e), some (.bl r.db), some (.bl r.ln), some (.int W2), ?_⟩
    · split <;> constructor <;> omega
    · have e10 : ((wtR (ruR r) : Nat) : Int) = (r.o.length : Int) - 1 + (if (r.d : Int) > 1 then (r.d : Int) else 1) * (1 + W2) := e9
      have e11 : ((1 + (((rsQ qs).take i).map wtR).sum : Nat) : Int) + (r.o.length : Int) - 1 + (if (r.d : Int) > 1 then (r.d : Int) else 1) * (1 + W2) = ((1 + (((rsQ qs).take (i + 1)).map wtR).sum : Nat) : Int) := by
        rw [eS]
        generalize (if (r.d : Int) > 1 then (r.d : Int) else 1) * (1 + W2) = Y at e10 ⊢
        omega
      show [some (V.ref L), some (V.int (((1 + (((rsQ qs).take i).map wtR).sum : Nat) : Int) + (r.o.length : Int) - 1 + (if (r.d : Int) > 1 then (r.d : Int) else 1) * (1 + W2))), _, _, _, _, _, _, _, _] = _
      rw [e11]
  · rintro σ H1 ⟨rfl, v2, v3, v4, v5, v6, v7, v8, v9, rfl⟩
    rw [List.take_of_length_le (by show (qs.map ruR).length ≤ _; rw [List.length_map, hl]; exact Nat.le_refl _)]
    exact ⟨_, rfl, q⟩

end
end Vf

set_option maxRecDepth 100000
set_option maxHeartbeats 4000000
namespace Vf
open PySem PySem.Spec PyProof.Rows L2 SX
section
variable {P : Program} {w : World} {K : PySem.W.Frag} {mg : Str → Option Value} {base : Heap}
/-- the program's weight of a right rule is the law's -/
theorem fdWt_eq {r : Rr} (h : RrOk r) : fdWt (fdR r) = ((wtR (ruR r) : Nat) : Int) := by
  rw [wt_int r h]
  have e0 : ("" : Str).length = 0 := by decide +kernel
  have nz : ∀ z : Str, z.length = 0 → z = "" := fun z hz => by
    refine TL.ext_tl ?_
    have : TL.tl z = [] := List.eq_nil_of_length_eq_zero (by rw [← TL.len_tl]; exact hz)
    rw [this]; decide +kernel
  have hc : (((r.c.length : Int) != 0) = true) ↔ r.c ≠ "" := by
    rw [bne_iff_ne]
    exact ⟨fun z y => z (by rw [y, e0]; rfl), fun z y => z (nz _ (by omega))⟩
  have he : (((r.e.length : Int) != 0) = true) ↔ r.e ≠ "" := by
    rw [bne_iff_ne]
    exact ⟨fun z y => z (by rw [y, e0]; rfl), fun z y => z (nz _ (by omega))⟩
  have hd : (((r.d : Int) != 0) = true) ↔ (r.d : Int) > 0 := by
    rw [bne_iff_ne]; omega
  have a1 : (if (1 : Int) > (r.d : Int) then 1 else (r.d : Int)) = (if (r.d : Int) > 1 then (r.d : Int) else 1) := by
    split <;> split <;> omega
  show (r.o.length : Int) - 1 + (if (1 : Int) > (r.d : Int) then 1 else (r.d : Int)) * (1 + (if ((r.e.length : Int) != 0) = true then (if r.db = true then 2 * (r.c.length : Int) - 1 else if ((r.d : Int) != 0) = true then (if ((r.c.length : Int) != 0) = true then (r.c.length : Int) - 1 else 0) + ((r.o.length : Int) - 1) else (if ((r.c.length : Int) != 0) = true then (r.c.length : Int) - 1 else 0)) + 1 else (if r.db = true then 2 * (r.c.length : Int) - 1 else if ((r.d : Int) != 0) = true then (if ((r.c.length : Int) != 0) = true then (r.c.length : Int) - 1 else 0) + ((r.o.length : Int) - 1) else (if ((r.c.length : Int) != 0) = true then (r.c.length : Int) - 1 else 0)))) = _
  rw [a1]
  congr 2
  congr 1
  have hdb1 : r.db = true → ¬ ((r.d : Int) > 0) := fun z y => by
    rcases h.hd with w | ⟨_, _, _, _, w⟩
    · omega
    · rw [w] at z; cases z
  have hdb2 := h.hb
  generalize (r.c.length : Int) = lc at hc ⊢
  generalize (r.e.length : Int) = le at he ⊢
  generalize (r.d : Int) = dd at hd hdb1 ⊢
  generalize (r.o.length : Int) = lo
  by_cases e1 : r.e = "" <;> by_cases e2 : r.c = "" <;> by_cases e3 : r.db = true <;> by_cases e4 : dd > 0 <;> first
    | exact absurd e2 (hdb2 e3)
    | exact absurd e4 (hdb1 e3)
    | (simp only [hc, he, hd, e1, e2, e3, e4, ne_eq, not_true_eq_false, not_false_eq_true, if_true, if_false, Bool.false_eq_true]; omega)
    | (simp only [hc, he, hd, e1, e2, e3, e4, ne_eq, not_true_eq_false, not_false_eq_true, if_true, if_false, Bool.false_eq_true])
theorem wtOf_eq {qs : List Rr} (h : ∀ r ∈ qs, RrOk r) : wtOf (qs.map fdR) = ((1 + ((rsQ qs).map wtR).sum : Nat) : Int) := by
  unfold wtOf
  have : ∀ (l : List Rr), (∀ r ∈ l, RrOk r) → ((l.map fdR).map fdWt).sum = ((((l.map ruR).map wtR).sum : Nat) : Int) := fun l => by
    induction l with
    | nil => intro _; rfl
    | cons r l ih =>
      intro hl
      have a := fdWt_eq (hl r (.head _))
      have b := ih fun x hx => hl x (.tail _ hx)
      simp only [List.map_cons, List.sum_cons]
      rw [a, b]
      omega
  rw [this qs h]
  show (1 : Int) + ((((qs.map ruR).map wtR).sum : Nat) : Int) = ((1 + ((qs.map ruR).map wtR).sum : Nat) : Int)
  omega

end
end Vf

set_option maxRecDepth 100000
set_option maxHeartbeats 4000000
namespace Vf
open PySem PySem.Spec PyProof.Rows L2 SX
section
variable {P : Program} {w : World} {K : PySem.W.Frag} {mg : Str → Option Value} {base : Heap}
theorem nodup_len {α : Type} [DecidableEq α] : ∀ {l m : List α}, l.Nodup → (∀ x ∈ l, x ∈ m) → l.length ≤ m.length
  | [], _, _, _ => Nat.zero_le _
  | x :: l, m, h, s => by
    rw [List.nodup_cons] at h
    have hx := s x (.head _)
    have := nodup_len (l := l) (m := m.erase x) h.2 fun y hy => (List.mem_erase_of_ne (fun z => h.1 (by rw [← z]; exact hy))).mpr (s y (.tail _ hy))
    rw [List.length_erase_of_mem hx] at this
    have := List.length_pos_of_mem hx
    rw [List.length_cons]
    omega
theorem ok_tongueSigns {f : Addr} {fd : FuncData} (F : C8.Def K mg "_law_tongue_signs" s_tongueSigns f fd) (b : Binds K fd ["_law_rules"] []) (T : Tx K w mg) (C_ruleWords : C8.Cal P w K mg base 1 "_law_rule_words" sp_ruleWords []) : C8.Cal P w K mg base 2 "_law_tongue_signs" sp_tongueSigns [] := by
  refine C8.cal0 F b .nil sc_tongueSigns (fun vs H Q E h => ?_) (fun cdv A outer s H vs Q E hr h => ?_)
  · obtain ⟨_, _, rfl, _⟩ := h; rfl
  have hu := hu_of hr
  refine ⟨_, (pss_one (ps_ret (pe_callB (cr_sortedT rfl) (by rfl) T.z_sorted (by decide +kernel) (pa_cons (pe_callTy (cr_setT rfl) (by rfl) T.z_set (by decide +kernel) (pa_cons (pe_lc (own := [("_law_sign", 1)]) (g := (gName 1)) (tt := tYes) rfl sc_tongueSigns.nd (pi_str (pe_op op_add_str (pe_join pe_str (C8.pe_c C_ruleWords hr (by decide) rfl (pa_cons (pv 0) pa_nil))) pe_str)) (blkOk_by (N := N_tongueSigns) (sc := C8.fnScope s_tongueSigns) (by decide +kernel)) (fun _ _ _ _ _ => pg_name (i := 1) sc_tongueSigns.nd rfl (Or.inl rfl)) (fun _ _ _ _ _ => pts_nil) (fun _ _ _ _ _ => (pv 1))) pa_nil)) pa_nil)))), ?_⟩

  obtain ⟨L, qs, rfl, hL, ok, q⟩ := h
  refine ⟨⟨_, rfl⟩, _, rfl, L, qs, rfl, hL, ok, fun H1 W ws s1 hW h1 l1 l2 mk => ?_⟩
  have e0 : ("" : Str).length = 0 := by decide +kernel
  have e1 : ("\n" : Str).length = 1 := by decide +kernel
  have sm := lens_sum (b := 4) (ls := ws) fun l hl => (mk_len (mk l hl)).2
  have sm2 : ws.length * 4 ≤ 24 * 4 := Nat.mul_le_mul_right _ l2
  have jl : (Txt.join ("" : Str) ws).length ≤ 96 := by
    rw [join_flat, S_len, List.length_flatten, List.map_map]
    have : ws.map (List.length ∘ TL.tl) = ws.map (·.length) := List.map_congr_left fun x _ => (TL.len_tl x).symm
    rw [this]; omega
  have jm : ∀ c ∈ TL.tl (Txt.join ("" : Str) ws), c ∈ mkL := fun c hc => by
    rw [join_flat, TL.tl_mk] at hc
    obtain ⟨l, hl, hc⟩ := List.mem_flatten.mp hc
    obtain ⟨x, hx, rfl⟩ := List.mem_map.mp hl
    have := mk x hx
    unfold isMk at this
    rw [Bool.and_eq_true, Bool.and_eq_true] at this
    exact of_decide_eq_true (List.all_eq_true.mp this.2.2 c hc)
  refine ⟨_, W, ws, rfl, rfl, .inl (SqL.of h1), by rw [e0]; omega, ?_⟩
  generalize Txt.join ("" : Str) ws = z at jl jm
  refine ⟨_, _, rfl, rfl, szB (by rw [e1]; omega), ?_⟩
  have tz : TL.tl (z ++ ("\n" : Str)) = TL.tl z ++ [10] := by rw [TL.tl_append]; congr 1
  have zl : (z ++ ("\n" : Str)).length = z.length + 1 := by rw [TL.len_tl, tz, List.length_append, ← TL.len_tl]; rfl
  generalize z ++ ("\n" : Str) = y at tz zl
  refine ⟨_, rfl, fun D hD => ?_⟩
  have hz : y.cps.size = (TL.tl y).length := by rw [← TL.len_tl]; rfl
  refine lc_it (walk_str (z := y)) (fun i H' => H' D = some (.lst ((((TL.tl y).take i).map fun c => S [c]).map V.str)) ∧ Same H1 H') ⟨upd_same, same1 hD _⟩ (fun _ _ _ _ => trivial) (fun i x H2 H3 hi e v => ?_) (fun H2 e => ?_)
  · obtain ⟨eH, c, hc, rfl⟩ := v
    subst eH
    have hc' : (TL.tl y)[i]? = some c := by rw [← hc]; exact Array.getElem?_toList
    refine ⟨rfl, ?_⟩
    dsimp only [tYes]
    rw [if_pos rfl]
    refine ⟨_, rfl, _, e.1, szL (by rw [List.length_map, List.length_map, List.length_take]; have := TL.len_tl y; omega), ?_, fun c o k => by rw [upd_ne (ne_of_none k hD)]; exact e.2 _ _ k⟩
    rw [upd_same, List.take_add_one, hc', List.map_append, List.map_append]; rfl
  · obtain ⟨g1, g2⟩ := e
    rw [hz, List.take_of_length_le (Nat.le_refl _)] at g1
    refine ⟨D, _, rfl, SqL.of g1, by rw [List.length_map, ← TL.len_tl]; omega, fun l p hm hn hp => ?_⟩
    have l32 : l.length ≤ ((10 :: mkL).map fun c => S [c]).length := nodup_len hn fun x hx => by
      obtain ⟨c, hc, rfl⟩ := List.mem_map.mp ((hm x).mp hx)
      rw [tz] at hc
      refine List.mem_map_of_mem ?_
      rcases List.mem_append.mp hc with hc | hc
      · exact .tail _ (jm c hc)
      · rw [List.mem_singleton.mp hc]; exact .head _
    have m32 : ((10 :: mkL).map fun c => S [c]).length ≤ 40 := by rw [List.length_map]; decide +kernel
    have sp : Same H1 (upd H2 p (SetX P w p l)) := same_new g2 hp _
    refine ⟨p, l, rfl, upd_same, by omega, fun ys p2 hy hlen hp2 => ?_⟩
    refine q _ p2 ys (fun b o k => same1 hp2 _ _ _ (sp _ _ (s1 _ _ k))) upd_same (by omega) fun x hx => ?_
    obtain ⟨c, hc, rfl⟩ := List.mem_map.mp ((hm x).mp (hy x hx))
    refine ⟨S_len [c], fun d hd => ?_⟩
    rw [TL.tl_mk] at hd
    rw [List.mem_singleton.mp hd]
    rw [tz] at hc
    rcases List.mem_append.mp hc with hc | hc
    · exact (mkL_ok c (jm c hc)).2
    · rw [List.mem_singleton.mp hc]; decide

end
end Vf

set_option maxRecDepth 100000
set_option maxHeartbeats 4000000
namespace Vf
open PySem PySem.Spec PyProof.Rows L2 SX
section
variable {P : Program} {w : World} {K : PySem.W.Frag} {mg : Str → Option Value} {base : Heap}
/-! ### stands, and what was met, as data -/
theorem op_eqDK {X : Cx} {K : PySem.W.Frag} (h : X.K = K) (hu : X.A.units + 64 < cLine) : OpR X (compareOp .Eq) (rEqD K) := by
  subst h
  exact op_eqD hu
def dSt (m : Md) (w : List Nat) : PyData := .tuple [.int (modeI m).1, .int (modeI m).2.1, .int (modeI m).2.2, .str (S w)]
theorem sdV_dp {K : PySem.W.Frag} {fs : List Fd} {H : Hp} {v : V} {m : Md} {w : List Nat} (h : SdV fs H v m w) : Dp K H v (dSt m w) := by
  obtain ⟨b, rfl, hb, _⟩ := h
  exact .tup (SqT.of hb) (.cons (.int _) (.cons (.int _) (.cons (.int _) (.cons (.str _) .nil))))
theorem prsV_dp {K : PySem.W.Frag} {H : Hp} {v : V} {ps : List (Option Nat × Nat)} (h : PrsV H v ps) : Dp K H v (.tuple (ps.map dPr)) := by
  obtain ⟨b, us, rfl, hb, h1, h2⟩ := h
  exact .tup (SqT.of hb) (prE_dp ⟨h1, h2⟩)
theorem dSt_lay {m : Md} {w : List Nat} (h : ∀ c ∈ w, c < 1000) : PyData.canLay0 (dSt m w) = true := by
  show (true && (true && (true && (PyData.strOk (S w) && true)))) = true
  rw [strOk_S h]; rfl
theorem dSt_depth (m : Md) (w : List Nat) : (dSt m w).depth ≤ 4 := by
  simp only [dSt, PyData.depth, PyData.depthAll]; omega
theorem shaped_of {d : PyData} (h : d.canLay0 = true) (l : d.depth ≤ 64) : SeqAt.shaped d = true := by
  unfold SeqAt.shaped
  rw [h, decide_eq_true l]; rfl
theorem dSt_shaped {m : Md} {w : List Nat} (h : ∀ c ∈ w, c < 1000) : SeqAt.shaped (dSt m w) = true := shaped_of (dSt_lay h) (Nat.le_trans (dSt_depth m w) (by decide))
theorem dSt_eqv (m m' : Md) (w w' : List Nat) : PyData.eqv (dSt m w) (dSt m' w') = decide (m = m' ∧ w = w') := by
  show ((modeI m).1 == (modeI m').1 && ((modeI m).2.1 == (modeI m').2.1 && ((modeI m).2.2 == (modeI m').2.2 && (S w == S w' && true)))) = _
  rw [Bool.eq_iff_iff]
  simp only [Bool.and_eq_true, beq_iff_eq, decide_eq_true_eq, and_true]
  constructor
  · rintro ⟨a, b, c, d⟩
    have e : modeI m = modeI m' := Prod.ext a (Prod.ext b c)
    exact ⟨by rw [← modeI_toMd m, e, modeI_toMd], S_inj d⟩
  · rintro ⟨rfl, rfl⟩
    exact ⟨rfl, rfl, rfl, rfl⟩
theorem dPr_lay {ps : List (Option Nat × Nat)} (h : PrSm ps) : PyData.canLayAll0 (ps.map dPr) = true ∧ PyData.depthAll (ps.map dPr) ≤ 4 := by
  refine ⟨?_, (prs_show h).2.2.1⟩
  induction ps with
  | nil => rfl
  | cons p ps ih =>
    have h1 := h p (.head _)
    have hk : PyData.strOk (S [p.2]) = true := strOk_S fun c hc => by rw [List.mem_singleton.mp hc]; exact h1.2
    have hd : PyData.canLay0 (dPr p) = true := by
      show (PyData.canLay0 (dSg p.1) && (PyData.strOk (S [p.2]) && true)) = true
      rw [hk]
      obtain ⟨o, k⟩ := p
      cases o with
      | none => rfl
      | some c =>
        show (PyData.strOk (S [c]) && (true && true)) = true
        rw [strOk_S fun x hx => by rw [List.mem_singleton.mp hx]; exact h1.1 c rfl]; rfl
    show (PyData.canLay0 (dPr p) && PyData.canLayAll0 (ps.map dPr)) = true
    rw [hd, ih fun q hq => h q (.tail _ hq)]; rfl
/-- what a move tells -/
def dMv (m : Md) (w : List Nat) (ps : List (Option Nat × Nat)) : PyData := .tuple [dSt m w, .tuple (ps.map dPr)]
theorem dMv_lay {m : Md} {w : List Nat} {ps : List (Option Nat × Nat)} (h : ∀ c ∈ w, c < 1000) (h2 : PrSm ps) : PyData.canLay0 (dMv m w ps) = true := by
  show (PyData.canLay0 (dSt m w) && (PyData.canLayAll0 (ps.map dPr) && true)) = true
  rw [dSt_lay h, (dPr_lay h2).1]; rfl
theorem dMv_shaped {m : Md} {w : List Nat} {ps : List (Option Nat × Nat)} (h : ∀ c ∈ w, c < 1000) (h2 : PrSm ps) : SeqAt.shaped (dMv m w ps) = true := by
  refine shaped_of (dMv_lay h h2) ?_
  have a := dSt_depth m w
  have b := (dPr_lay h2).2
  simp only [dMv, PyData.depth, PyData.depthAll]; omega
theorem dMv_eqv {m : Md} {w : List Nat} {ps : List (Option Nat × Nat)} (h : ∀ c ∈ w, c < 1000) (h2 : PrSm ps) : PyData.eqv (dMv m w ps) (dMv m w ps) = true := SeqAt.eqv_refl _ (dMv_lay h h2)
theorem dMv_dp {K : PySem.W.Frag} {fs : List Fd} {H : Hp} {r : Addr} {s1 p1 : V} {m : Md} {w : List Nat} {ps : List (Option Nat × Nat)} (hr : H r = some (.tup [s1, p1])) (h1 : SdV fs H s1 m w) (h2 : PrsV H p1 ps) : Dp K H (.ref r) (dMv m w ps) := .tup (SqT.of hr) (.cons (sdV_dp h1) (.cons (prsV_dp h2) .nil))
/-! ### the rows met -/
structure MtR where
  A : Addr
  v : V
  t : List Nat
  b : Bool
  m : Md
  w : List Nat
def MtIn (fs : List Fd) (rs : List Ru) (H : Hp) (r : MtR) : Prop := H r.A = some (.tup [r.v, .str (S r.t)]) ∧ SdV fs H r.v r.m r.w ∧ (∃ ks, Mac rs ((hid r.b r.t).map sgC) r.m r.w ks) ∧ r.t.length ≤ 36 ∧ ∀ c ∈ r.t, c < 1000
theorem MtIn.tk {fs : List Fd} {rs : List Ru} {H H' : Hp} {r : MtR} (h : MtIn fs rs H r) (s : Tk H H') : MtIn fs rs H' r := let ⟨a, ⟨b, e, b1, b2⟩, c⟩ := h; ⟨s _ _ a, ⟨b, e, s _ _ b1, b2⟩, c⟩
def dMt (r : MtR) : PyData := .tuple [dSt r.m r.w, .str (S r.t)]
theorem hid_sm {b : Bool} {t : List Nat} (h : ∀ c ∈ t, c < 1000) : ∀ c ∈ (hid b t).map sgC, c < 1000 := fun c hc => by
  obtain ⟨g, hg, rfl⟩ := List.mem_map.mp hc
  obtain ⟨x, hx, rfl⟩ := List.mem_map.mp hg
  split
  · decide
  · exact h x hx
theorem mac_sm {rs : List Ru} (ok : ∀ r ∈ rs, RuOk r) {x w ks : List Nat} {m : Md} (h : Mac rs x m w ks) (hx : ∀ c ∈ x, c < 1000) : ∀ c ∈ w, c < 1000 := fun c hc => by
  have e := (mac_all ok h).2.2.1
  rw [e] at hc
  exact hx c (List.mem_of_mem_drop hc)
theorem MtIn.dp {K : PySem.W.Frag} {fs : List Fd} {rs : List Ru} {H : Hp} {r : MtR} (h : MtIn fs rs H r) : Dp K H (.ref r.A) (dMt r) := .tup (SqT.of h.1) (.cons (sdV_dp h.2.1) (.cons (.str _) .nil))
theorem MtIn.lay {fs : List Fd} {rs : List Ru} {H : Hp} {r : MtR} (ok : ∀ r ∈ rs, RuOk r) (h : MtIn fs rs H r) : PyData.canLay0 (dMt r) = true ∧ (dMt r).depth ≤ 8 := by
  obtain ⟨_, _, ⟨ks, mc⟩, _, hs⟩ := h
  have hw := mac_sm ok mc (hid_sm hs)
  refine ⟨?_, ?_⟩
  · show (PyData.canLay0 (dSt r.m r.w) && (PyData.strOk (S r.t) && true)) = true
    rw [dSt_lay hw, strOk_S hs]; rfl
  · have := dSt_depth r.m r.w
    simp only [dMt, PyData.depth, PyData.depthAll]; omega
theorem mts_data {K : PySem.W.Frag} {fs : List Fd} {rs : List Ru} {H : Hp} (ok : ∀ r ∈ rs, RuOk r) : ∀ {ms : List MtR}, (∀ r ∈ ms, MtIn fs rs H r) → DpAll K H (ms.map fun r => V.ref r.A) (ms.map dMt) ∧ PyData.canLayAll0 (ms.map dMt) = true ∧ PyData.depthAll (ms.map dMt) ≤ 9
  | [], _ => ⟨.nil, rfl, by simp [PyData.depthAll]⟩
  | r :: ms, h => by
    obtain ⟨h1, h2, h3⟩ := mts_data ok (ms := ms) fun x hx => h x (.tail _ hx)
    obtain ⟨g1, g2⟩ := (h r (.head _)).lay ok
    refine ⟨.cons (h r (.head _)).dp h1, ?_, ?_⟩
    · show (PyData.canLay0 (dMt r) && PyData.canLayAll0 (ms.map dMt)) = true
      rw [g1, h2]; rfl
    · simp only [List.map_cons, PyData.depthAll]; omega
theorem mts_nil (ms : List MtR) : PyData.eqv (.list (ms.map dMt)) (.list []) = decide (ms = []) := by
  cases ms with
  | nil => rfl
  | cons x r => rw [decide_eq_false (fun z => nomatch z)]; rfl
def keyM (r : MtR) : Md × List Nat := (r.m, r.w)
def knw (ms : List MtR) (m : Md) (w : List Nat) : List MtR := ms.filter fun r => decide (r.m = m ∧ r.w = w)
theorem knw_snoc {ms : List MtR} {r : MtR} (hn : (ms.map keyM).Nodup) (h : knw ms r.m r.w = []) : ((ms ++ [r]).map keyM).Nodup := by
  rw [List.map_append]
  refine List.nodup_append.mpr ⟨hn, by simp, fun u hu v hv e => ?_⟩
  have ev : v = keyM r := List.mem_singleton.mp hv
  obtain ⟨x, hx, rfl⟩ := List.mem_map.mp hu
  rw [ev] at e
  have e1 : x.m = r.m := congrArg Prod.fst e
  have e2 : x.w = r.w := congrArg Prod.snd e
  have : x ∈ knw ms r.m r.w := List.mem_filter.mpr ⟨hx, decide_eq_true ⟨e1, e2⟩⟩
  rw [h] at this
  cases this
/-- no more are met than the weight tells -/
theorem mts_len {fs : List Fd} {rs : List Ru} {H : Hp} (ok : ∀ r ∈ rs, RuOk r) {ms : List MtR} (hn : (ms.map keyM).Nodup) (h : ∀ r ∈ ms, MtIn fs rs H r) : ms.length ≤ 1 + (rs.map wtR).sum := by
  rw [← allSt_len, ← List.length_map (f := keyM)]
  refine nodup_len hn fun x hx => ?_
  obtain ⟨r, hr, rfl⟩ := List.mem_map.mp hx
  obtain ⟨_, _, ⟨ks, mc⟩, _⟩ := h r hr
  exact allSt_mem ok (mac_modb ok mc) (mac_all ok mc).2.2.2.1
/-- two texts that lead to one stand -/
theorem alike_mt {qs : List Rr} (ok : QsOk qs) {x y w ks ls : List Nat} {b c : Bool} {m : Md} (h1 : Mac (rsQ qs) ((hid b x).map sgC) m w ks) (h2 : Mac (rsQ qs) ((hid c y).map sgC) m w ls) (u : List Nat) : (kdsOf (rsQ qs) (x ++ u)).drop (x.length - w.length) = (kdsOf (rsQ qs) (y ++ u)).drop (y.length - w.length) := by
  have n97 : NoIn (rsQ qs) 97 := mk_no ok (by decide) (by decide)
  have n32 : NoIn (rsQ qs) 32 := mk_no ok (by decide) (by decide)
  have e1 := kds_alk ok.ok (alkL_app u (hid_alk n97 n32 b x))
  have e2 := kds_alk ok.ok (alkL_app u (hid_alk n97 n32 c y))
  have e := mac_alike ok.ok h1 h2 u
  rw [List.length_map, hid_len, List.length_map, hid_len] at e
  rw [e1, e2]
  exact e
/-- the pairs of a move are small -/
theorem prsOf_sm {qs : List Rr} (ok : QsOk qs) {b : Bool} {t : List Nat} {st : List (Md × List Nat)} {tl : List (List Nat)} (ht : ∀ c ∈ t, c < 1000) (h : Fed (rsQ qs) (hid b t) st tl) {i : Nat} (hi : i < t.length) : PrSm (prsOf (hid b t) st tl i) := by
  have l1 := h.l1
  have l2 := h.l2
  have gl := hid_len b t
  have h1 : st[i]? = some st[i] := List.getElem?_eq_getElem (by omega)
  have h1' : st[i + 1]? = some st[i + 1] := List.getElem?_eq_getElem (by omega)
  have h2 : (hid b t)[i]? = some (hid b t)[i] := List.getElem?_eq_getElem (by omega)
  have h3 : tl[i]? = some tl[i] := List.getElem?_eq_getElem (by omega)
  have sx : ∀ n, ∀ c ∈ ((hid b t).take n).map sgC, c < 1000 := fun n => by
    rw [hid_take]; exact hid_sm fun c hc => ht c (List.mem_of_mem_take hc)
  have hw := mac_sm ok.ok (fed_mac h i _ (by omega) h1) (sx i)
  have hk : ∀ c ∈ tl[i], c < 1000 := fun c hc => by
    have mc := mac_kinds ok.ok (fed_mac h (i + 1) _ (by omega) h1')
    have hm : c ∈ (tl.take (i + 1)).flatten := List.mem_flatten.mpr ⟨tl[i], by rw [List.take_add_one, h3]; exact List.mem_append_right _ (.head _), hc⟩
    exact kds_small qs (((hid b t).take (i + 1)).map sgC) c (by rw [mc]; exact List.mem_append_left _ hm)
  intro p hp
  unfold prsOf at hp
  rw [h1, h2, h3] at hp
  obtain ⟨p1, p2⟩ := p
  obtain ⟨a1, a2⟩ := List.of_mem_zip hp
  refine ⟨fun c hc => ?_, hk _ a2⟩
  have hc : p1 = some c := hc
  rw [hc] at a1
  rcases List.mem_append.mp a1 with z | z
  · obtain ⟨x, hx, e⟩ := List.mem_map.mp z
    cases e; exact hw _ hx
  · have z : some c = (hid b t)[i] := List.mem_singleton.mp z
    have hm : some c ∈ hid b t := by rw [z]; exact List.getElem_mem _
    obtain ⟨x, hx, e⟩ := List.mem_map.mp hm
    split at e
    · cases e
    · cases e; exact ht _ hx
theorem RlsX.ext {H H' : Hp} {L : Addr} {qs : List Rr} (h : RlsX H L qs) (s : LamX.ExtN H H') : RlsX H' L qs := let ⟨rs, a, b, c⟩ := h
  ⟨rs, s _ _ a (fun _ z => nomatch z), b, fun j v r x y => (c j v r x y).tk fun b xs z => s _ _ z fun _ z => nomatch z⟩
theorem RlsX.upd {H : Hp} {L B : Addr} {qs : List Rr} {xs ys : List V} (h : RlsX H L qs) (hB : H B = some (.lst xs)) (n : B ≠ L) : RlsX (L2.upd H B (.lst ys)) L qs := let ⟨rs, a, b, c⟩ := h
  ⟨rs, by rw [upd_ne n.symm]; exact a, b, fun j v r x y => (c j v r x y).tk fun b xs z => by rw [upd_ne fun y => by rw [y, hB] at z; cases z]; exact z⟩
/-- what stays through a turn -/
def LawIn (P : Program) (w : World) (K : PySem.W.Frag) (CR CD CG CM : Addr) (R x y : Addr) (qs : List Rr) (H : Hp) : Prop := RlsX H R qs ∧ TgQ P w K CR CD CG H x (qs.map fdR) (tongueT qs) ∧ TgWt CG H x (wtOf (qs.map fdR)) ∧ RmAt CM H y x
section
variable {P : Program} {w : World} {K : PySem.W.Frag} {CR CD CG CM R x y : Addr} {qs : List Rr} {H H' : Hp}
theorem TgWt.ks {a : Addr} {wt : Int} (h : TgWt CG H a wt) (s : Ks H H') : TgWt CG H' a wt := let ⟨dx, t, rt, rd, z⟩ := h
  ⟨dx, t, rt, rd, s.1 _ _ z fun _ z => nomatch z⟩
theorem RmAt.ks {a tg : Addr} (h : RmAt CM H a tg) (s : Ks H H') : RmAt CM H' a tg := let ⟨dx, b0, z1, z2⟩ := h
  ⟨dx, b0, s.1 _ _ z1 (fun _ z => nomatch z), s.tup z2⟩
theorem LawIn.ks (h : LawIn P w K CR CD CG CM R x y qs H) (s : Ks H H') : LawIn P w K CR CD CG CM R x y qs H' := ⟨h.1.ks s, h.2.1.kp (.ks s), h.2.2.1.ks s, h.2.2.2.ks s⟩
theorem LawIn.same (h : LawIn P w K CR CD CG CM R x y qs H) (s : Same H H') : LawIn P w K CR CD CG CM R x y qs H' := h.ks (.of s)
theorem LawIn.upd {B : Addr} {xs ys : List V} (h : LawIn P w K CR CD CG CM R x y qs H) (hB : H B = some (.lst xs)) (n : B ≠ R) : LawIn P w K CR CD CG CM R x y qs (L2.upd H B (.lst ys)) := by
  obtain ⟨a, b, ⟨dx, t, rt, rd, z⟩, ⟨dy, b0, z1, z2⟩⟩ := h
  refine ⟨a.upd hB n, b.kp (.lst hB), ⟨dx, t, rt, rd, ?_⟩, ⟨dy, b0, ?_, ?_⟩⟩
  · rw [upd_ne fun y => by rw [y, hB] at z; cases z]; exact z
  · rw [upd_ne fun y => by rw [y, hB] at z1; cases z1]; exact z1
  · rw [upd_ne fun y => by rw [y, hB] at z2; cases z2]; exact z2
/-- the list of the rows met -/
def MtL (fs : List Fd) (rs : List Ru) (B : Addr) (ms : List MtR) (H : Hp) : Prop := H B = some (.lst (ms.map fun r => V.ref r.A)) ∧ (∀ r ∈ ms, MtIn fs rs H r) ∧ (ms.map keyM).Nodup
theorem MtL.ks {fs : List Fd} {rs : List Ru} {B : Addr} {ms : List MtR} (h : MtL fs rs B ms H) (s : Ks H H') : MtL fs rs B ms H' := ⟨s.lst h.1, fun r hr => (h.2.1 r hr).tk s.tk, h.2.2⟩
theorem MtL.same {fs : List Fd} {rs : List Ru} {B : Addr} {ms : List MtR} (h : MtL fs rs B ms H) (s : Same H H') : MtL fs rs B ms H' := h.ks (.of s)
/-- the last text, its signs, its stands and what was told -/
def Last (fs : List Fd) (rs : List Ru) (G D E : Addr) (t : List Nat) (b : Bool) (sv pv : List V) (st : List (Md × List Nat)) (tl : List (List Nat)) (H : Hp) : Prop := H G = some (.lst ((hid b t).map sgV)) ∧ H D = some (.lst sv) ∧ H E = some (.lst pv) ∧ Fed rs (hid b t) st tl ∧ StsV fs H sv st ∧ TlsV H pv (hid b t) st tl ∧ t.length ≤ 36 ∧ ∀ c ∈ t, c < 1000
theorem Last.ks {fs : List Fd} {rs : List Ru} {G D E : Addr} {t : List Nat} {b : Bool} {sv pv : List V} {st : List (Md × List Nat)} {tl : List (List Nat)} (h : Last fs rs G D E t b sv pv st tl H) (s : Ks H H') : Last fs rs G D E t b sv pv st tl H' := ⟨s.lst h.1, s.lst h.2.1, s.lst h.2.2.1, h.2.2.2.1, h.2.2.2.2.1.same s.tk, h.2.2.2.2.2.1.same s.tk, h.2.2.2.2.2.2⟩
theorem Last.upd {fs : List Fd} {rs : List Ru} {G D E B : Addr} {t : List Nat} {b : Bool} {sv pv : List V} {st : List (Md × List Nat)} {tl : List (List Nat)} {xs ys : List V} (h : Last fs rs G D E t b sv pv st tl H) (hB : H B = some (.lst xs)) (nG : B ≠ G) (nD : B ≠ D) (nE : B ≠ E) : Last fs rs G D E t b sv pv st tl (L2.upd H B (.lst ys)) := by
  have tk : Tk H (L2.upd H B (.lst ys)) := fun b zs z => by rw [upd_ne fun y => by rw [y, hB] at z; cases z]; exact z
  exact ⟨by rw [upd_ne nG.symm]; exact h.1, by rw [upd_ne nD.symm]; exact h.2.1, by rw [upd_ne nE.symm]; exact h.2.2.1, h.2.2.2.1, h.2.2.2.2.1.same tk, h.2.2.2.2.2.1.same tk, h.2.2.2.2.2.2⟩
/-- one row more -/
theorem MtL.put {fs : List Fd} {rs : List Ru} {B : Addr} {ms : List MtR} (h : MtL fs rs B ms H) {r : MtR} (hr : MtIn fs rs H r) (hk : knw ms r.m r.w = []) : MtL fs rs B (ms ++ [r]) (L2.upd H B (.lst (ms.map (fun r => V.ref r.A) ++ [.ref r.A]))) := by
  have tk : Tk H (L2.upd H B (.lst (ms.map (fun r => V.ref r.A) ++ [.ref r.A]))) := fun b zs z => by rw [upd_ne fun y => by rw [y, h.1] at z; cases z]; exact z
  refine ⟨by rw [upd_same, List.map_append]; rfl, fun x hx => ?_, knw_snoc h.2.2 hk⟩
  rcases List.mem_append.mp hx with z | z
  · exact (h.2.1 x z).tk tk
  · rw [List.mem_singleton.mp z]; exact hr.tk tk
end
theorem fdR_sm {r : Rr} (h : RrOk r) : FdSm (fdR r) := by
  have e0 : ("" : Str).length = 0 := by decide +kernel
  have lo := (mk_len h.ho).2
  have lc : r.c.length ≤ 4 := h.hc.elim (fun z => by rw [z, e0]; decide) fun z => (mk_len z).2
  have le : r.e.length ≤ 4 := h.he.elim (fun z => by rw [z, e0]; decide) fun z => (mk_len z.1).2
  have ld : r.d ≤ 4 := by rcases h.hd with z | ⟨z, _⟩ <;> omega
  exact ⟨by show r.o.length ≤ 50; omega, by show r.c.length ≤ 50; omega, ld, le⟩
theorem wtR_le {r : Rr} (h : RrOk r) : wtR (ruR r) ≤ 100 := by
  have ho := (mk_tl h.ho).2.1
  have hc : (ruR r).c.length ≤ 4 := h.hc.elim (fun z => by show (TL.tl r.c).length ≤ 4; rw [tl_nil.mpr z]; decide) fun z => (mk_tl z).2.1
  have ho : (ruR r).o.length ≤ 4 := ho
  have hd : (ruR r).d ≤ 4 := by
    show r.d ≤ 4
    rcases h.hd with z | ⟨z, _⟩ <;> omega
  have hm : manyR (ruR r) ≤ 11 := by
    unfold manyR
    have a1 : (if (ruR r).db = true then 2 * (ruR r).c.length - 1 else (ruR r).c.length - 1) ≤ 7 := by split <;> omega
    have a2 : (if 0 < (ruR r).d then (ruR r).o.length - 1 else 0) ≤ 3 := by split <;> omega
    have a3 : (if (ruR r).e ≠ [] then 1 else 0) ≤ 1 := by split <;> omega
    omega
  unfold wtR
  have := Nat.mul_le_mul (show max (ruR r).d 1 ≤ 4 by omega) (show 1 + manyR (ruR r) ≤ 12 by omega)
  omega
theorem wtS_le : ∀ {qs : List Rr}, (∀ r ∈ qs, RrOk r) → ((rsQ qs).map wtR).sum ≤ 100 * qs.length
  | [], _ => Nat.le_refl _
  | r :: qs, h => by
    have a := wtR_le (h r (.head _))
    have b := wtS_le (qs := qs) fun x hx => h x (.tail _ hx)
    show wtR (ruR r) + ((rsQ qs).map wtR).sum ≤ 100 * (qs.length + 1)
    omega
theorem sliceU {a : List Nat} {i : Nat} : Txt.slice (S a) none (some (i : Int)) = S (a.take i) := by
  rw [← C8.cutS_slice]
  unfold cutS
  rw [S_len, HT.sIx_nat]
  show S ((a.drop 0).take (min i a.length - 0)) = _
  congr 1
  rw [List.drop_zero, Nat.sub_zero]
  by_cases h : i ≤ a.length
  · rw [Nat.min_eq_left h]
  · rw [Nat.min_eq_right (by omega), List.take_of_length_le (Nat.le_refl _), List.take_of_length_le (by omega)]
theorem wt_scr {n : Nat} (h : n ≤ 1000) : ScR (.int (n : Int)) := by
  refine .inr (.inr (.inl ⟨_, rfl, ?_⟩))
  rw [Int.natAbs_natCast]
  rcases Nat.eq_zero_or_pos n with e | e
  · rw [e]; decide
  · exact Nat.lt_trans ((Nat.log2_lt (by omega)).mpr (Nat.lt_of_le_of_lt h (by decide : 1000 < 2 ^ 40))) (by decide)
theorem three_of {j : Nat} {vv : V} (h : ([.int 9, .int 6, .int 3] : List V)[j]? = some vv) : ∃ n : Nat, vv = .int (n : Int) ∧ n ≤ 9 ∧ j < 3 := by
  match j, h with
  | 0, h => cases h; exact ⟨9, rfl, by decide, by decide⟩
  | 1, h => cases h; exact ⟨6, rfl, by decide, by decide⟩
  | 2, h => cases h; exact ⟨3, rfl, by decide, by decide⟩
theorem knw_take {ms : List MtR} {q : Nat} {r : MtR} {m : Md} {w : List Nat} (h : ms[q]? = some r) : knw (ms.take (q + 1)) m w = knw (ms.take q) m w ++ (if r.m = m ∧ r.w = w then [r] else []) := by
  unfold knw
  rw [List.take_add_one, h, List.filter_append]
  congr 1
  show [r].filter (fun r : MtR => decide (r.m = m ∧ r.w = w)) = _
  by_cases c : r.m = m ∧ r.w = w
  · rw [if_pos c, List.filter_cons_of_pos (p := fun r : MtR => decide (r.m = m ∧ r.w = w)) (decide_eq_true c)]; rfl
  · rw [if_neg c, List.filter_cons_of_neg (p := fun r : MtR => decide (r.m = m ∧ r.w = w)) (by rw [decide_eq_false c]; exact Bool.false_ne_true)]; rfl
theorem mac_left {qs : List Rr} (ok : QsOk qs) {x w ks : List Nat} {m : Md} (h : Mac (rsQ qs) x m w ks) : (rdM (rsQ qs) m w).2.length = w.length := by
  have e := mac_kinds ok.ok h
  have l := kds_len ok.ok ok.nn x
  have a := (mac_all ok.ok h).2.1
  rw [e, List.length_append] at l
  omega

end
end Vf

set_option maxRecDepth 100000
set_option maxHeartbeats 4000000
namespace Vf
open PySem PySem.Spec PyProof.Rows L2 SX
section
variable {P : Program} {w : World} {K : PySem.W.Frag} {mg : Str → Option Value} {base : Heap}
def sp3_newRule : Sp := fun vs H Q _ => ∃ (p c a : Addr) (m : Nat) (o : Str) (l : List Nat) (k9 : Nat), vs = [.ref p, .str o, .ref a, .int (k9 : Int)] ∧ PenAt H p c m ∧ m < 800000 ∧ isMk o = true ∧ H a = some (.lst (l.map one)) ∧ MkSg l ∧ 1 ≤ k9 ∧ k9 ≤ 4 ∧
  ∀ (H' : Hp) (v : V) (r : Rr), Ks H H' → PenAt H' p c (m + 20) → R7x v H' r → r.o = o → Q v H'
def sp3_newRules : Sp := fun vs H Q _ => ∃ (p c : Addr) (m n k9 : Nat), vs = [.ref p, .int (n : Int), .int (k9 : Int)] ∧ PenAt H p c m ∧ m < 700000 ∧ 1 ≤ n ∧ n ≤ 8 ∧ 1 ≤ k9 ∧ k9 ≤ 4 ∧
  ∀ (H' : Hp) (b : Addr) (rs : List V) (qs : List Rr), Ks H H' → PenAt H' p c (m + 400) → H' b = some (.lst rs) → rs.length = qs.length → 1 ≤ qs.length → qs.length ≤ n → (qs.map Rr.o).Nodup → (∀ (j : Nat) (r : V) (q : Rr), rs[j]? = some r → qs[j]? = some q → R7x r H' q) → Q (.ref b) H'
theorem ok_newRule {f : Addr} {fd : FuncData} (F : C8.Def K mg "_law_new_rule" s_newRule f fd) (b : Binds K fd ["_law_pen_here", "_law_mark", "_law_signs", "_law_most"] []) (T : Tx K w mg) (C_pick : C8.Cal P w K mg base 2 "_law_pick" sp_pick []) (C_lawWord : C8.Cal P w K mg base 3 "_law_word" sp_lawWord []) (C_draw : C8.Cal P w K mg base 1 "_law_draw" sp_draw []) : C8.Cal P w K mg base 4 "_law_new_rule" sp3_newRule [] := by
  refine C8.cal0 F b .nil sc_newRule (fun vs H Q E h => ?_) (fun cdv A outer s H vs Q E hr h => ?_)
  · obtain ⟨p, c, a, m, o, l, k9, rfl, _⟩ := h; rfl
  have hu := hu_of hr
  refine ⟨_, (pss_cons (ps_set (i := 4) sc_newRule.nd rfl (Or.inl rfl) (C8.pe_c C_pick hr (by decide) rfl (pa_cons (pv 0) (pa_cons (pe_lst (pa_cons pe_str (pa_cons pe_str (pa_cons pe_str pa_nil)))) pa_nil))))
      (pss_cons (ps_par (i := 5) (j := 6) (by rfl) sc_newRule.nd rfl rfl (by decide) rfl rfl (pa_cons (C8.pe_c C_draw hr (by decide) rfl (pa_cons (pv 0) (pa_cons pe_int pa_nil))) (pa_cons (C8.pe_c C_lawWord hr (by decide) rfl (pa_cons (pv 0) (pa_cons (pv 2) (pa_cons (pv 3) pa_nil)))) pa_nil)) (by rfl))
      (C8.pss_cut (ps_set (i := 6) sc_newRule.nd rfl (Or.inl rfl) (pe_ifExp (pt_cmpR op_lt (pv 5) pe_int (nomark _)) pe_str (pe_ifExp (pt_cmpR op_eq (pv 5) pe_int (nomark _)) (pv 1) (pv 6))))
      (C8.pss_cut (ps_set (i := 7) sc_newRule.nd rfl (Or.inl rfl) (pe_and (pe_cmpR op_eq (pv 4) pe_str (nomark _)) (pe_and (pe_cmpR op_ne (pv 6) pe_str (nomark _)) (pe_and (pe_cmpR op_ne (pv 6) (pv 1) (nomark _)) (pe_one (pe_cmpR op_in_seq (pv 5) (pe_tup (pa_cons pe_int (pa_cons pe_int pa_nil))) rfl))))))
      (C8.pss_cut (ps_set (i := 8) sc_newRule.nd rfl (Or.inl rfl) (pe_ifExp (pt_cmpR op_eq (C8.pe_c C_draw hr (by decide) rfl (pa_cons (pv 0) (pa_cons pe_int pa_nil))) pe_int (nomark _)) (C8.pe_c C_pick hr (by decide) rfl (pa_cons (pv 0) (pa_cons (pv 2) pa_nil))) pe_str))
      (C8.pss_cut (ps_set (i := 9) sc_newRule.nd rfl (Or.inl rfl) (pe_and (pe_cmpR op_ne (pv 6) pe_str (nomark _)) (pe_and (pe_not (pv 7)) (pe_one (pe_cmpR op_in_seq (pv 5) (pe_tup (pa_cons pe_int (pa_cons pe_int pa_nil))) rfl)))))
      (C8.pss_cut (ps_set (i := 10) sc_newRule.nd rfl (Or.inl rfl) (pe_and (pe_cmpR op_ne (pv 6) pe_str (nomark _)) (pe_one (pe_cmpR op_eq (C8.pe_c C_draw hr (by decide) rfl (pa_cons (pv 0) (pa_cons pe_int pa_nil))) pe_int (nomark _)))))
      (pss_one (ps_ret (pe_tup (pa_cons (pv 4) (pa_cons (pv 1) (pa_cons (pv 6) (pa_cons (pe_ifExp (pt_val (pv 7)) (pe_op op_add pe_int (C8.pe_c C_draw hr (by decide) rfl (pa_cons (pv 0) (pa_cons pe_int pa_nil)))) pe_int) (pa_cons (pv 8) (pa_cons (pv 9) (pa_cons (pv 10) pa_nil))))))))))))))))), ?_⟩

  obtain ⟨p, c, a, m, o, l, k9, rfl, hp, hm, mo, ha, ms, h91, h94, q⟩ := h
  have hs := ms.sg
  have go := mk_good mo
  have step : ∀ {t : TS} {u : TS} {D : Ends} {σ : L2.St} {H1 : Hp} (R : L2.St → Hp → Prop), t { D with nx := R } σ H1 → (∀ σ' H', R σ' H' → u D σ' H') → C8.tCut t u D σ H1 := fun _ h1 h2 => ⟨_, h1, h2⟩
  have gg : ∀ z ∈ (["remark", "quote", ""] : List Str), GoodS 8 z := goods_of (by decide +kernel)
  refine ⟨_, rfl, szB (by decide), fun B hB => ?_⟩
  refine ⟨p, c, m, _, rfl, hp.new hB, by omega, .inr ⟨B, _, rfl, upd_same, by decide, by decide, fun H1 vk k1 p1 hk => ?_⟩⟩
  have k1' := (Ks.new1 hB _).trans k1
  have hk' : ∃ kd : Str, vk = .str kd ∧ (kd = "remark" ∨ kd = "quote") := by
    simp only [List.mem_cons, List.not_mem_nil, or_false] at hk
    rcases hk with rfl | rfl | rfl
    · exact ⟨_, rfl, .inl rfl⟩
    · exact ⟨_, rfl, .inl rfl⟩
    · exact ⟨_, rfl, .inr rfl⟩
  obtain ⟨kd, rfl, gk⟩ := hk'
  refine ⟨_, rfl, p, c, _, 8, rfl, p1, by omega, by decide, by decide, fun H2 way k2 p2 hw => ?_⟩
  refine ⟨_, rfl, _, rfl, _, rfl, p, c, a, m + 1 + 1, k9, l, rfl, p2, by omega, k2.lst (k1'.lst ha), hs, h91, by omega, fun H3 t k3 p3 t1 t2 t3 => ?_⟩
  have k03 := k1'.trans (k2.trans k3)
  refine ⟨_, _, rfl, ?_⟩
  refine step (fun σ' H' => ∃ cl, σ' = [some (.ref p), some (.str o), some (.ref a), some (.int (k9 : Int)), some (.str kd), some (.int (way : Int)), some (.str cl), none, none, none, none] ∧ (cl = "" ∨ isMk cl = true) ∧ Ks H H' ∧ PenAt H' p c (m + 7)) ?_ ?_
  · have fin : ∀ cl : Str, (cl = "" ∨ isMk cl = true) → ∃ cl', [some (V.ref p), some (V.str o), some (V.ref a), some (V.int (k9 : Int)), some (V.str kd), some (V.int (way : Int)), some (V.str cl), none, none, none, none] = [some (V.ref p), some (V.str o), some (V.ref a), some (V.int (k9 : Int)), some (V.str kd), some (V.int (way : Int)), some (V.str cl'), none, none, none, none] ∧ (cl' = "" ∨ isMk cl' = true) ∧ Ks H H3 ∧ PenAt H3 p c (m + 7) := fun cl g => ⟨cl, rfl, g, k03, p3.mono (by omega)⟩
    refine ⟨_, rfl, _, _, rfl, rfl, _, rfl, ?_⟩
    refine ite2 (fun _ => fin "" (.inl rfl)) fun _ => ⟨_, rfl, rfl, _, rfl, ?_⟩
    exact ite2 (fun _ => ⟨_, rfl, fin o (.inr mo)⟩) fun _ => ⟨_, rfl, fin (S t) (.inr (mk_of ms t3 t1 (by omega)))⟩
  rintro σ1 H4 ⟨cl, rfl, gc, k4, p4⟩
  refine step (fun σ' H' => ∃ b, σ' = [some (.ref p), some (.str o), some (.ref a), some (.int (k9 : Int)), some (.str kd), some (.int (way : Int)), some (.str cl), some (.bl b), none, none, none] ∧ (b = true → kd = "remark" ∧ cl ≠ "" ∧ cl ≠ o) ∧ Ks H H' ∧ PenAt H' p c (m + 7)) ?_ ?_
  · refine ⟨_, rfl, rfl, _, rfl, ?_⟩
    refine ite2 (fun e1 => ⟨_, rfl, rfl, _, rfl, ?_⟩) fun _ => ⟨false, rfl, (fun z => nomatch z), k4, p4⟩
    refine ite2 (fun e2 => ⟨_, rfl, _, rfl, rfl, _, rfl, ?_⟩) fun _ => ⟨false, rfl, (fun z => nomatch z), k4, p4⟩
    refine ite2 (fun e3 => ⟨_, rfl, szB (by decide), fun L hL => ⟨L, _, rfl, .inr (SqT.of upd_same), rfl, rfl, _, rfl, fun _ => ⟨eq_of e1, ne_of' e2, ne_of' e3⟩, k4.new hL _, p4.new hL⟩⟩) fun _ => ⟨false, rfl, (fun z => nomatch z), k4, p4⟩
  rintro σ1 H5 ⟨b7, rfl, n7, k5, p5⟩
  refine step (fun σ' H' => ∃ es, σ' = [some (.ref p), some (.str o), some (.ref a), some (.int (k9 : Int)), some (.str kd), some (.int (way : Int)), some (.str cl), some (.bl b7), some (.str es), none, none] ∧ (es = "" ∨ (isMk es = true ∧ es.length = 1)) ∧ Ks H H' ∧ PenAt H' p c (m + 9)) ?_ ?_
  · refine ⟨_, rfl, p, c, _, 4, rfl, p5, by omega, by decide, by decide, fun H6 r k6 p6 hr6 => ⟨rfl, _, rfl, ?_⟩⟩
    have k6' := k5.trans k6
    refine ite2 (fun _ => ⟨_, rfl, _, rfl, p, c, _, _, rfl, p6, by omega, .inr ⟨a, _, rfl, k6'.lst ha, by rw [List.length_map]; exact hs.1, by rw [List.length_map]; have := hs.2.1; omega, fun H7 v k7 p7 hv => ?_⟩⟩) fun _ => ⟨"", rfl, .inl rfl, k6', p6.mono (by omega)⟩
    obtain ⟨x, hx, rfl⟩ := List.mem_map.mp hv
    exact ⟨S [x], rfl, .inr ⟨mk_of (t := [x]) ms (fun y hy => by rw [List.mem_singleton.mp hy]; exact hx) (Nat.le_refl 1) (by show 1 ≤ 4; decide), rfl⟩, k6'.trans k7, p7.mono (by omega)⟩
  rintro σ1 H6 ⟨es, rfl, ge, k6, p6⟩
  refine step (fun σ' H' => ∃ b, σ' = [some (.ref p), some (.str o), some (.ref a), some (.int (k9 : Int)), some (.str kd), some (.int (way : Int)), some (.str cl), some (.bl b7), some (.str es), some (.bl b), none] ∧ (b = true → cl ≠ "" ∧ b7 = false) ∧ Ks H H' ∧ PenAt H' p c (m + 9)) ?_ ?_
  · refine ⟨_, rfl, rfl, _, rfl, ?_⟩
    refine ite2 (fun e1 => ⟨_, rfl, _, rfl, _, rfl, ?_⟩) fun _ => ⟨false, rfl, (fun z => nomatch z), k6, p6⟩
    refine ite2 (fun e2 => ⟨_, rfl, szB (by decide), fun L hL => ⟨L, _, rfl, .inr (SqT.of upd_same), rfl, rfl, _, rfl, fun _ => ⟨ne_of' e1, by cases b7 with | true => cases e2 | false => rfl⟩, k6.new hL _, p6.new hL⟩⟩) fun _ => ⟨false, rfl, (fun z => nomatch z), k6, p6⟩
  rintro σ1 H7 ⟨b9, rfl, n9, k7, p7⟩
  refine step (fun σ' H' => ∃ b, σ' = [some (.ref p), some (.str o), some (.ref a), some (.int (k9 : Int)), some (.str kd), some (.int (way : Int)), some (.str cl), some (.bl b7), some (.str es), some (.bl b9), some (.bl b)] ∧ (b = true → cl ≠ "") ∧ Ks H H' ∧ PenAt H' p c (m + 10)) ?_ ?_
  · refine ⟨_, rfl, rfl, _, rfl, ?_⟩
    refine ite2 (fun e1 => ⟨_, rfl, p, c, _, 4, rfl, p7, by omega, by decide, by decide, fun H8 r k8 p8 hr8 => ⟨rfl, _, rfl, fun _ => ne_of' e1, k7.trans k8, p8.mono (by omega)⟩⟩) fun _ => ⟨false, rfl, (fun z => nomatch z), k7, p7.mono (by omega)⟩
  rintro σ1 H8 ⟨b10, rfl, n10, k8, p8⟩
  have fin : ∀ (H9 : Hp) (d : Nat), (d = 0 ∨ ((d = 2 ∨ d = 3 ∨ d = 4) ∧ b7 = true)) → Ks H H9 → PenAt H9 p c (m + 11) → ∀ L, H9 L = none → Q (.ref L) (upd H9 L (.tup (r7 kd o cl d es b9 b10))) := fun H9 d hd k9 p9 L hL =>
    q _ _ ⟨kd, o, cl, d, es, b9, b10⟩ (k9.new hL _) ((p9.new hL).mono (by omega)) ⟨L, rfl, upd_same, ⟨gk, mo, gc, hd.imp id fun z => ⟨z.1, (n7 z.2).1, (n7 z.2).2.1, (n7 z.2).2.2, by cases e9 : b9 with | false => rfl | true => exact absurd (n9 e9).2 (by rw [z.2]; exact Bool.noConfusion)⟩, ge, fun z => (n9 z).1, n10⟩⟩ rfl
  refine ⟨_, rfl, _, rfl, _, rfl, _, rfl, _, rfl, ?_⟩
  cases b7 with
  | true =>
    refine ifT ⟨_, rfl, p, c, _, 3, rfl, p8, by omega, by decide, by decide, fun H9 r k9 p9 hr9 => ⟨_, _, rfl, rfl, _, rfl, _, rfl, _, rfl, szB (n := 7) (by decide), fun L hL => ?_⟩⟩
    have e : ((2 : Int) + (r : Int)) = ((2 + r : Nat) : Int) := by omega
    show Q (.ref L) (upd H9 L (.tup [.str kd, .str o, .str cl, .int ((2 : Int) + (r : Int)), .str es, .bl b9, .bl b10]))
    rw [e]
    exact fin H9 (2 + r) (.inr ⟨by omega, rfl⟩) (k8.trans k9) p9 L hL
  | false => exact ifF ⟨_, rfl, _, rfl, _, rfl, szB (n := 7) (by decide), fun L hL => fin H8 0 (.inl rfl) k8 (p8.mono (by omega)) L hL⟩

end
end Vf

set_option maxRecDepth 100000
set_option maxHeartbeats 4000000
namespace Vf
open PySem PySem.Spec PyProof.Rows L2 SX
section
variable {P : Program} {w : World} {K : PySem.W.Frag} {mg : Str → Option Value} {base : Heap}
theorem ok_newRules {f : Addr} {fd : FuncData} (F : C8.Def K mg "_law_new_rules" s_newRules f fd) (b : Binds K fd ["_law_pen_here", "_law_many", "_law_most"] []) (T : Tx K w mg) (C_some : C8.Cal P w K mg base 2 "_law_some" sp_some []) (C_draw : C8.Cal P w K mg base 1 "_law_draw" sp_draw []) (C_markSigns : C8.Cal P w K mg base 1 "_law_mark_signs" sp_markSigns []) (C_lawWord : C8.Cal P w K mg base 3 "_law_word" sp_lawWord []) (C_newRule : C8.Cal P w K mg base 4 "_law_new_rule" sp3_newRule []) : C8.Cal P w K mg base 5 "_law_new_rules" sp3_newRules [] := by
  refine C8.cal0 F b .nil sc_newRules (fun vs H Q E h => ?_) (fun cdv A outer s H vs Q E hr h => ?_)
  · obtain ⟨p, c, m, n, k9, rfl, _⟩ := h; rfl
  have hu := hu_of hr
  refine ⟨_, (pss_cons (ps_asg (pe_tup (pa_cons (C8.pe_c C_some hr (by decide) rfl (pa_cons (pv 0) (pa_cons (pe_c0 C_markSigns hr (by decide) rfl) (pa_cons (pe_op op_add pe_int (C8.pe_c C_draw hr (by decide) rfl (pa_cons (pv 0) (pa_cons pe_int pa_nil)))) pa_nil)))) (pa_cons (pe_lst pa_nil) pa_nil))) (pg_tup (by rfl) (pgs_cons (pg_name (i := 3) sc_newRules.nd rfl (Or.inr rfl)) (pgs_cons (pg_name (i := 4) sc_newRules.nd rfl (Or.inl rfl)) pgs_nil))))
      (pss_cons (ps_for PassesOwn.never rfl (pi_range1 (by rfl) T.z_range (pa_cons (pe_op op_mul pe_int (pv 1)) pa_nil)) (pg_name (i := 5) sc_newRules.nd rfl (Or.inl rfl))
      (pss_cons (ps_set (i := 6) sc_newRules.nd rfl (Or.inl rfl) (C8.pe_c C_lawWord hr (by decide) rfl (pa_cons (pv 0) (pa_cons (pv 3) (pa_cons (pv 2) pa_nil)))))
      (pss_one (ps_if (PW.pt (pw_and (pt_cmpR op_notIn_seq (pv 6) (pv 4) rfl) (pw_and1 (pt_cmpR op_lt (pe_callB call_len (by rfl) T.z_len PySem.boot_len (pa_cons (pv 4) pa_nil)) (pv 1) (nomark _)))))
      (pss_one (ps_expr (pe_bm PySem.F.plainAttrs_list PySem.F.slot_list_append PySem.F.type_list_append mt_append (pv 4) (pa_cons (pv 6) pa_nil))))
      pss_nil))))
      (pss_one (ps_ret (pe_lc (own := [("_law_mark", 6)]) (g := (gName 6)) (tt := tYes) rfl sc_newRules.nd (pi_list (pv 4)) (blkOk_by (N := N_newRules) (sc := C8.fnScope s_newRules) (by decide +kernel)) (fun _ _ _ _ _ => pg_name (i := 6) sc_newRules.nd rfl (Or.inl rfl)) (fun _ _ _ _ _ => pts_nil) (fun _ _ _ _ _ => (C8.pe_c C_newRule hr (by decide) rfl (pa_cons (pv 0) (pa_cons (pv 6) (pa_cons (pv 3) (pa_cons (pv 2) pa_nil))))))))))), ?_⟩

  obtain ⟨p, c, m, n, k9, rfl, hp, hm, hn1, hn2, h91, h94, q⟩ := h
  refine ⟨_, rfl, rfl, fun H1 A s1 hA0 hA => ⟨_, rfl, p, c, m, 3, rfl, hp.same s1, by omega, by decide, by decide, fun H2 r k2 p2 hr2 => ⟨_, _, rfl, rfl, ?_⟩⟩⟩
  refine ⟨p, c, A, m + 1, 2 + r, mkL, congrArg (fun z : Int => [V.ref p, V.ref A, V.int z]) (show (2 : Int) + (r : Int) = ((2 + r : Nat) : Int) by omega), p2, by omega, k2.lst hA, by omega, by omega, by show _ ≤ 30; omega, by decide, fun H3 B l k3 p3 hB hl hx => ?_⟩
  have k03 := (Ks.of s1).trans (k2.trans k3)
  have ms9 : MkSg l := ⟨by omega, by omega, hx⟩
  have hs := ms9.sg
  refine ⟨szB (by decide), fun M hM => ⟨szB (n := 2) (by decide), fun T0 hT0 => ?_⟩⟩
  refine ⟨T0, _, rfl, SqT.of upd_same, rfl, _, _, rfl, _, _, rfl, rfl, ?_⟩
  have hM3 : H3 M = none := hM
  have hM0 : H M = none := k03.free hM
  have nM := hp.ne hM0
  have hMT : (upd (upd H3 M (.lst [])) T0 (.tup [.ref B, .ref M])) M = some (.lst []) := by rw [upd_ne (ne_of_none (upd_same (H := H3) (a := M)) hT0)]; exact upd_same
  have k04 : Ks H (upd (upd H3 M (.lst [])) T0 (.tup [.ref B, .ref M])) := (k03.new hM _).new hT0 _
  have hBM : B ≠ M := ne_of_none hB hM
  have hB4 : (upd (upd H3 M (.lst [])) T0 (.tup [.ref B, .ref M])) B = some (.lst (l.map one)) := ((Ks.new1 hM _).new hT0 _).lst hB
  refine ⟨_, rfl, _, _, rfl, rfl, .inl ⟨by decide, by decide⟩, 2 * (n : Int), rfl, by omega, by omega, ?_⟩
  rw [show (2 * (n : Int)).toNat = 2 * n by omega]
  refine for_range (lo := 0) (n := 2 * n) (fun i σ H' => ∃ (v5 v6 : Option V) (ms : List Str), σ = [some (.ref p), some (.int (n : Int)), some (.int (k9 : Int)), some (.ref B), some (.ref M), v5, v6] ∧ H' M = some (.lst (ms.map V.str)) ∧ H' B = some (.lst (l.map one)) ∧ ms.length ≤ n ∧ (1 ≤ i → 1 ≤ ms.length) ∧ ((∀ w ∈ ms, isMk w = true) ∧ ms.Nodup) ∧ Ks H H' ∧ PenAt H' p c (m + 5 + i * 5))
    ⟨none, none, [], rfl, hMT, hB4, Nat.zero_le _, (fun z => absurd z (by decide)), ⟨(fun _ z => nomatch z), List.nodup_nil⟩, k04, ((p3.new hM).new hT0).mono (by omega)⟩ ?_ ?_
  · rintro i σ H5 hi ⟨v5, v6, ms, rfl, hM5, hB5, e1, e2, e3, k5, p5⟩
    refine ⟨_, rfl, _, rfl, _, rfl, p, c, B, m + 5 + i * 5, k9, l, rfl, p5, by omega, hB5, hs, h91, by omega, fun H6 t k6 p6 t1 t2 t3 => ?_⟩
    have hM6 := k6.lst hM5
    have hB6 := k6.lst hB5
    have p6' : PenAt H6 p c (m + 5 + (i + 1) * 5) := p6.mono (by omega)
    have k06 := k5.trans k6
    refine ⟨_, rfl, _, rfl, M, _, rfl, .inl (SqL.of hM6), rfl, flat_strs _, _, rfl, ?_⟩
    simp only [if_true, inV_strs]
    have stay : 1 ≤ ms.length → ∃ (v5' v6' : Option V) (ms' : List Str), [some (V.ref p), some (V.int (n : Int)), some (V.int (k9 : Int)), some (V.ref B), some (V.ref M), some (V.int (0 + (i : Int))), some (V.str (S t))] = [some (V.ref p), some (V.int (n : Int)), some (V.int (k9 : Int)), some (V.ref B), some (V.ref M), v5', v6'] ∧ H6 M = some (.lst (ms'.map V.str)) ∧ H6 B = some (.lst (l.map one)) ∧ ms'.length ≤ n ∧ (1 ≤ i + 1 → 1 ≤ ms'.length) ∧ ((∀ w ∈ ms', isMk w = true) ∧ ms'.Nodup) ∧ Ks H H6 ∧ PenAt H6 p c (m + 5 + (i + 1) * 5) := fun h => ⟨_, _, ms, rfl, hM6, hB6, e1, fun _ => h, e3, k06, p6'⟩
    by_cases c1 : S t ∈ ms
    · refine ifn (by rw [decide_eq_true c1]; rfl) ?_
      exact ifF (stay (List.length_pos_iff.mpr (List.ne_nil_of_mem c1)))
    · refine ify (by rw [decide_eq_false c1]; rfl) ⟨_, rfl, _, ms.length, rfl, .inl ⟨_, SqL.of hM6, (List.length_map ..).symm⟩, _, rfl, _, _, rfl, rfl, _, rfl, ?_⟩
      by_cases c2 : ms.length < n
      · refine ify (decide_eq_true (by omega)) ⟨_, rfl, .inl ⟨rfl, _, SqL.of hM6⟩, _, rfl, M, _, _, rfl, rfl, hM6, szL (by rw [List.length_map]; omega), _, _, ms ++ [S t], rfl, by rw [upd_same, List.map_append]; rfl, by rw [upd_ne hBM]; exact hB6, by rw [List.length_append]; show ms.length + 1 ≤ n; omega, fun _ => by rw [List.length_append]; show 1 ≤ ms.length + 1; omega, ⟨fun w hw => ?_, List.nodup_append.mpr ⟨e3.2, by simp, fun x hx y hy z => by rw [List.mem_singleton.mp hy] at z; exact c1 (z ▸ hx)⟩⟩, k06.upd hM0 _, p6'.upd nM.1 nM.2⟩
        rcases List.mem_append.mp hw with hw | hw
        · exact e3.1 w hw
        · rw [List.mem_singleton.mp hw]; exact mk_of ms9 t3 t1 (by omega)
      · exact ifn (decide_eq_false (by omega)) (stay (by omega))
  · rintro σ H5 ⟨v5, v6, ms, rfl, hM5, hB5, e1, e2, e3, k5, p5⟩
    have hms : 1 ≤ ms.length := e2 (by omega)
    refine ⟨_, rfl, M, rfl, ⟨_, SqL.of hM5⟩, fun D hD => ?_⟩
    refine lc_listK (p := p) (c := c) (m0 := m + 5 + 2 * n * 5) (s := 20) (k := 6) (fun i v H => ∃ r, R7x v H r ∧ ms[i]? = some r.o) (fun _ _ _ _ t h => let ⟨r, h1, h2⟩ := h; ⟨r, h1.tk t, h2⟩) (by show 6 < 7; decide) hD hM5 p5 (by rw [List.length_map]; omega) (fun i x H6 m6 Q6 hx k6 p6 hm6 hq => ?_) (fun H6 ys y1 y2 y3 k6 p6 => ?_)
    · rw [List.getElem?_map] at hx
      cases hw : ms[i]? with
      | none => rw [hw] at hx; cases hx
      | some w =>
        rw [hw] at hx
        cases hx
        have hi := (List.getElem?_eq_some_iff.mp hw).1
        exact ⟨_, rfl, _, rfl, _, rfl, _, rfl, p, c, B, m6, w, l, k9, rfl, p6, by omega, e3.1 w (List.mem_of_getElem? hw), k6.lst hB5, ms9, h91, h94, fun H7 v r k7 p7 r7 er => hq H7 v k7 p7 ⟨r, r7, by rw [er]; exact hw⟩⟩
    · rw [List.length_map] at y1 p6
      obtain ⟨qs, f1, f2, f3⟩ := rules_of (H := H6) y1 y2
      refine q H6 D ys qs (k5.trans k6) (p6.mono (by omega)) y3 f1.symm (by omega) (by omega) (by rw [f2]; exact e3.2) f3

end
end Vf

set_option maxRecDepth 100000
set_option maxHeartbeats 4000000
namespace Vf
open PySem PySem.Spec PyProof.Rows L2 SX
section
variable {P : Program} {w : World} {K : PySem.W.Frag} {mg : Str → Option Value} {base : Heap}
theorem ok_Tongue_eq {CR CD CG : Addr} {f : Addr} {fd : FuncData} {q : Str} (O : OwnC K CG f) (gc : mg "Tongue" = some (.ref CG)) (F : C8.Fun K "__eq__" q s_Tongue_eq f fd) (b : Binds K fd ["self", "other"] []) (T : Tx K w mg) (A0 : Ca K CR CD CG) : Eqc P w K mg base 1 CG (EqG CG) := by
  refine ⟨⟨f, fd, _, O, ?_, b⟩⟩
  refine C8.fn0 F sc_Tongue_eq (fun vs H Q E h => ?_) (fun cdv A outer s H vs Q E hr h => ?_)
  · obtain ⟨a, b, r, rfl, _⟩ := h; rfl
  have hu := hu_of hr
  refine ⟨_, (pss_one (ps_ret (pe_and (pe_callB (C8.call_isC A0.iG) (by rfl) T.z_isinstance (by decide +kernel) (pa_cons (pv 1) (pa_cons (pe_cls (gc) rfl) pa_nil))) (pe_one (pe_cmpR op_eq (pe_fld (pv 0) rfl) (pe_fld (pv 1) rfl) (nomark _)))))), ?_⟩
  obtain ⟨a, b, r, rfl, ⟨t, u, ⟨dx, rt, wi, rd, h1, h2⟩, ⟨dy, rt', wi', rd', h3, h4⟩, rfl⟩, k⟩ := h
  have k' := k H (same_refl H)
  refine ⟨_, rfl, b, dy, _, rfl, h3, true, rfl, ifT ?_⟩
  refine ⟨_, rfl, a, CG, dx, _, _, rfl, h1, A0.iG.cl, A0.g1, rfl, _, rfl, b, CG, dy, _, _, rfl, h3, A0.iG.cl, A0.g1, rfl, rfl, ?_⟩
  rw [dS]
  exact k'

end
end Vf

set_option maxRecDepth 100000
set_option maxHeartbeats 4000000
namespace Vf
open PySem PySem.Spec PyProof.Rows L2 SX
section
variable {P : Program} {w : World} {K : PySem.W.Frag} {mg : Str → Option Value} {base : Heap}
theorem ok_law {f : Addr} {fd : FuncData} {CR CD CG CM CT P0 : Addr} (F : C8.Def K mg "law" s_law f fd) (T : Tx K w mg) (CX_Tongue : MakX P w K mg base 7 "Tongue" CG (sp3_Tongue_init P w K CR CD CG CT P0)) (CG_walkRight : CalG P w K mg base 5 "_law_walk_right" sp_walkRight) (EQ : Eqc P w K mg base 1 CG (EqG CG)) (A0 : Ca K CR CD CG) (AM : Cm K CM) (M_ReadingMachine : C8.Mak P w K mg base 1 "ReadingMachine" CM (sp_RM_init P w K CR CD CG CM) []) (C_pen : C8.Cal P w K mg base 1 "_law_pen" (sp_pen K) []) (C_newRules : C8.Cal P w K mg base 5 "_law_new_rules" sp3_newRules []) (C_draw : C8.Cal P w K mg base 1 "_law_draw" sp_draw []) (C_tongueText : C8.Cal P w K mg base 2 "_law_tongue_text" sp_tongueText []) (C_weight : C8.Cal P w K mg base 1 "_law_weight" sp_weight []) (C_markedText : C8.Cal P w K mg base 3 "_law_marked_text" sp_markedText []) (C_fedText : C8.Cal P w K mg base 5 "_law_fed_text" (sp_fedText P w K CR CD CG CM) []) (C_ReadingMachine_ended : C8.Met P w K mg base 4 CM "ended" (sp_ended P w K CR CD CG CM) []) (C_alikeBehind : C8.Cal P w K mg base 4 "_law_alike_behind" sp_alikeBehind []) (C_ReadingMachine_moved : C8.Met P w K mg base 4 CM "moved" (sp_moved P w K CR CD CG CM) []) : RunAt P w K mg base callerA f fd ["_law_script"] (sp_law K P0) := by
  have hR : Room 10 callerA := ⟨rfl, by decide, by decide⟩
  refine runAt_of (k := 9) F.fn sc_law (fun vs H Q E h => ?_) hR (fun cdv out s H vs Q h => ?_)
  · obtain ⟨a, ns, rfl, _⟩ := h; rfl
  have hr : Room 9 (callerA.deeper (envOfC "law" (C8.fnScope s_law) s.heap.objs.size f cdv)) := hR.deeper _
  have hu := hu_of hr
  have hu64 := hr.units
  refine ⟨_, (pss_cons (ps_set (i := 1) sc_law.nd rfl (Or.inl rfl) (C8.pe_c C_pen hr (by decide) rfl (pa_cons (pv 0) pa_nil)))
      (pss_cons (ps_for PassesOwn.never rfl (pi_range1 (by rfl) T.z_range (pa_cons pe_int pa_nil)) (pg_name (i := 2) sc_law.nd rfl (Or.inl rfl))
      (pss_cons (ps_set (i := 3) sc_law.nd rfl (Or.inl rfl) (C8.pe_c C_newRules hr (by decide) rfl (pa_cons (pv 1) (pa_cons pe_int (pa_cons (pe_op op_add pe_int (C8.pe_c C_draw hr (by decide) rfl (pa_cons (pv 1) (pa_cons pe_int pa_nil)))) pa_nil)))))
      (pss_cons (ps_par (i := 4) (j := 5) (by rfl) sc_law.nd rfl rfl (by decide) rfl rfl (pa_cons (pe_mkX0 CX_Tongue hr (by decide) rfl (pa_cons (C8.pe_c C_tongueText hr (by decide) rfl (pa_cons (pv 3) pa_nil)) pa_nil)) (pa_cons (pe_lst pa_nil) pa_nil)) (by rfl))
      (pss_cons (ps_set (i := 6) sc_law.nd rfl (Or.inl rfl) (C8.pe_mk M_ReadingMachine hr (by decide) rfl (pa_cons (pv 4) pa_nil)))
      (C8.pss_cut (ps_if (PW.pt (pw_or (pt_cmpR op_ne (pe_callB (cr_alt (call_reprD rfl hu64) call_reprS) (by rfl) T.z_repr (by decide +kernel) (pa_cons (pe_fld (pv 4) rfl) pa_nil)) (pe_callB (cr_alt (call_reprD rfl hu64) call_reprS) (by rfl) T.z_repr (by decide +kernel) (pa_cons (C8.pe_c C_weight hr (by decide) rfl (pa_cons (pv 3) pa_nil)) pa_nil)) (nomark _)) (pw_or1 (pt_not (pt_cmpR (op_eqC EQ hr (by decide)) (pe_fld (pv 6) rfl) (pv 4) (nomark _))))))
      (pss_one (ps_ret pe_bl))
      pss_nil)
      (pss_cons (ps_for PassesOwn.never rfl (pi_tup (pe_tup (pa_cons pe_int (pa_cons pe_int (pa_cons pe_int pa_nil))))) (pg_name (i := 7) sc_law.nd rfl (Or.inl rfl))
      (pss_cons (ps_asg (pe_tup (pa_cons (C8.pe_c C_markedText hr (by decide) rfl (pa_cons (pv 1) (pa_cons (pv 3) (pa_cons (pv 7) pa_nil)))) (pa_cons (C8.pe_c C_draw hr (by decide) rfl (pa_cons (pv 1) (pa_cons pe_int pa_nil))) pa_nil))) (pg_tup (by rfl) (pgs_cons (pg_name (i := 8) sc_law.nd rfl (Or.inl rfl)) (pgs_cons (pg_name (i := 9) sc_law.nd rfl (Or.inr rfl)) pgs_nil))))
      (pss_cons (ps_set (i := 10) sc_law.nd rfl (Or.inr rfl) (pe_lc (own := [("_law_sign", 16)]) (g := (gName 16)) (tt := tYes) rfl sc_law.nd (pi_str (pv 8)) (blkOk_by (N := N_law) (sc := C8.fnScope s_law) (by decide +kernel)) (fun _ _ _ _ _ => pg_name (i := 16) sc_law.nd rfl (Or.inl rfl)) (fun _ _ _ _ _ => pts_nil) (fun _ _ _ _ _ => (pe_ifExp (PW.pt (pw_and (pt_cmpR op_eq (pv 16) pe_str (nomark _)) (pw_and1 (pt_cmpR op_gt (pv 9) pe_int (nomark _))))) pe_non (pv 16)))))
      (pss_cons (ps_asg (C8.pe_c C_fedText hr (by decide) rfl (pa_cons (pv 6) (pa_cons (pv 10) pa_nil))) (pg_tup (by rfl) (pgs_cons (pg_name (i := 11) sc_law.nd rfl (Or.inr rfl)) (pgs_cons (pg_name (i := 12) sc_law.nd rfl (Or.inl rfl)) pgs_nil))))
      (pss_cons (ps_if (pt_not (pt_val (pe_cG CG_walkRight hr (by decide) rfl rfl (pa_cons (pv 3) (pa_cons (pv 8) (pa_cons (pv 10) (pa_cons (pv 12) (pa_cons (C8.pe_mt C_ReadingMachine_ended hr (by decide) (pv 6) (pa_cons (pe_ix ix_list (pv 11) (pe_un un_neg pe_int) (fun _ _ => rfl)) pa_nil)) pa_nil))))))))
      (pss_one (ps_ret pe_bl))
      pss_nil)
      (pss_one (ps_for PassesOwn.never rfl (pi_range1 (by rfl) T.z_range (pa_cons (pe_callB call_len (by rfl) T.z_len PySem.boot_len (pa_cons (pv 11) pa_nil)) pa_nil)) (pg_name (i := 13) sc_law.nd rfl (Or.inr rfl))
      (pss_cons (ps_if (pt_not (pt_val (pe_callB call_isi (by rfl) T.z_isinstance (by decide +kernel) (pa_cons (pe_ix ix_list (pv 11) (pv 13) (fun _ _ => rfl)) (pa_cons (pe_bltn (v := .ty "tuple") (by rfl) T.z_tuple (by decide +kernel) rfl) pa_nil)))))
      (pss_one (ps_ret pe_bl))
      pss_nil)
      (pss_cons (ps_par (i := 14) (j := 15) (by rfl) sc_law.nd rfl rfl (by decide) rfl rfl (pa_cons (pe_lc (own := [("_law_row", 17)]) (g := (gName 17)) (tt := _) rfl sc_law.nd (pi_list (pv 5)) (blkOk_by (N := N_law) (sc := C8.fnScope s_law) (by decide +kernel)) (fun _ _ _ _ _ => pg_name (i := 17) sc_law.nd rfl (Or.inl rfl)) (fun _ _ _ _ _ => pts_one (pt_cmpR (op_eqDK (K := K) rfl hr.units) (pe_ix (ix_tupK (K := K) rfl) (pv 17) pe_int (fun _ _ => rfl)) (pe_ix (ix_listK (K := K) rfl) (pv 11) (pv 13) (fun _ _ => rfl)) (nomark _))) (fun _ _ _ _ _ => (pv 17))) (pa_cons (C8.pe_c C_markedText hr (by decide) rfl (pa_cons (pv 1) (pa_cons (pv 3) (pa_cons pe_int pa_nil)))) pa_nil)) (by rfl))
      (pss_one (ps_if (pt_cmpR (op_eqD hr.units) (pv 14) (pe_lst pa_nil) (nomark _))
      (pss_one (ps_expr (pe_bm PySem.F.plainAttrs_list PySem.F.slot_list_append PySem.F.type_list_append mt_append (pv 5) (pa_cons (pe_tup (pa_cons (pe_ix ix_list (pv 11) (pv 13) (fun _ _ => rfl)) (pa_cons (pe_slice C8.sl_txt (pv 8) po_none (po_some (pv 13))) pa_nil))) pa_nil))))
      (pss_one (ps_if (pt_not (pt_val (C8.pe_c C_alikeBehind hr (by decide) rfl (pa_cons (pv 3) (pa_cons (pe_ix ix_tup (pe_ix ix_list (pv 14) pe_int (fun _ _ => rfl)) pe_int (fun _ _ => rfl)) (pa_cons (pe_slice C8.sl_txt (pv 8) po_none (po_some (pv 13))) (pa_cons (pv 15) (pa_cons (pe_callB call_len (by rfl) T.z_len PySem.boot_len (pa_cons (C8.pe_mt C_ReadingMachine_ended hr (by decide) (pv 6) (pa_cons (pe_ix ix_list (pv 11) (pv 13) (fun _ _ => rfl)) pa_nil)) pa_nil)) pa_nil))))))))
      (pss_one (ps_ret pe_bl))
      pss_nil)))))))))))))
      (pss_cons (ps_for PassesOwn.never rfl (pi_list (pe_lc (own := [("_law_j", 18)]) (g := (gName 18)) (tt := tYes) rfl sc_law.nd (pi_range1 (by rfl) T.z_range (pa_cons (pe_callB call_len (by rfl) T.z_len PySem.boot_len (pa_cons (pv 10) pa_nil)) pa_nil)) (blkOk_by (N := N_law) (sc := C8.fnScope s_law) (by decide +kernel)) (fun _ _ _ _ _ => pg_name (i := 18) sc_law.nd rfl (Or.inl rfl)) (fun _ _ _ _ _ => pts_nil) (fun _ _ _ _ _ => (pe_op op_sub (pe_op op_sub (pe_callB (call_lenK (K := K) rfl) (by rfl) T.z_len PySem.boot_len (pa_cons (pv 10) pa_nil)) pe_int) (pv 18))))) (pg_name (i := 13) sc_law.nd rfl (Or.inr rfl))
      (pss_one (ps_if (pt_cmpR (op_neD hr.units) (C8.pe_mt C_ReadingMachine_moved hr (by decide) (pv 6) (pa_cons (pe_ix ix_list (pv 11) (pv 13) (fun _ _ => rfl)) (pa_cons (pe_ix ix_list (pv 10) (pv 13) (fun _ _ => rfl)) pa_nil))) (pe_tup (pa_cons (pe_ix ix_list (pv 11) (pe_op op_add (pv 13) pe_int) (fun _ _ => rfl)) (pa_cons (pe_ix ix_list (pv 12) (pv 13) (fun _ _ => rfl)) pa_nil))) (nomark _))
      (pss_one (ps_ret pe_bl))
      pss_nil)))
      (pss_one (ps_if (pt_cmpR op_gt (pe_callB call_len (by rfl) T.z_len PySem.boot_len (pa_cons (pv 5) pa_nil)) (pe_fld (pv 4) rfl) (nomark _))
      (pss_one (ps_ret pe_bl))
      pss_nil)))))))))
      (pss_one (ps_ret pe_bl)))), ?_⟩

  obtain ⟨a, ns, rfl, ha, hn, h0, q⟩ := h
  refine ⟨_, rfl, a, ns, rfl, ha, hn, fun H1 p c k1 p1 => ?_⟩
  have tb1 : LamX.Tabs (T0 P0) H1 := tabs_ks (fun x hx => by rw [List.mem_singleton.mp hx]; exact LamX.TabS.nil h0) k1
  refine ⟨2, rfl, by decide, by decide, ?_⟩
  refine for_range (lo := 0) (n := 2) (fun i σ H' => ∃ (v2 v3 v4 v5 v6 v7 v8 v9 v10 v11 v12 v13 v14 v15 : Option V), σ = [some (.ref a), some (.ref p), v2, v3, v4, v5, v6, v7, v8, v9, v10, v11, v12, v13, v14, v15, none, none, none] ∧ PenAt H' p c (i * 40000) ∧ LamX.Tabs (T0 P0) H')
    ⟨none, none, none, none, none, none, none, none, none, none, none, none, none, none, rfl, p1, tb1⟩ ?_ ?_
  rotate_left
  · rintro σ H3 ⟨v2, v3, v4, v5, v6, v7, v8, v9, v10, v11, v12, v13, v14, v15, rfl, _⟩
    exact q _
  rintro i σ H2 hi ⟨v2, v3, v4, v5, v6, v7, v8, v9, v10, v11, v12, v13, v14, v15, rfl, p2, tb2⟩
  refine ⟨_, rfl, _, rfl, p, c, i * 40000, 4, rfl, p2, by omega, by decide, by decide, fun H3 r k3 p3 hr3 => ⟨_, _, rfl, rfl, ?_⟩⟩
  refine ⟨p, c, i * 40000 + 1, 4, 1 + r, congrArg (fun z : Int => [V.ref p, V.int 4, V.int z]) (show (1 : Int) + (r : Int) = ((1 + r : Nat) : Int) by omega), p3, by omega, by decide, by decide, by omega, by omega, fun H4 R rs qs k4 p4 hR r1 r2 r3 r4 r5 => ?_⟩
  have rx : RlsX H4 R qs := ⟨rs, hR, r1, r5⟩
  have qk : QsOk qs := ⟨fun r hr => by
    obtain ⟨j, hj, rfl⟩ := List.mem_iff_getElem.mp hr
    obtain ⟨_, _, _, o⟩ := r5 j rs[j] qs[j] (List.getElem?_eq_getElem (by omega)) (List.getElem?_eq_getElem hj)
    exact o, r4, r2, by omega⟩
  have tb4 := tabs_ks tb2 (k3.trans k4)
  refine ⟨_, rfl, R, qs, rfl, rx, qk, fun H5 s5 => ?_⟩
  have tb5 := tb4.ext s5
  have p5 := p4.same s5
  intro x dx hx hdx ne
  have sx1 := same1 hdx (.own x)
  have sx := same_new sx1 (by rw [upd_ne ne.symm]; exact hx) (.ins CG dx [])
  have tl := tongue_len qk.1 qk.2.2.2
  have tn := tongue_lns qk.1 qk.2.2.1
  have tf : fw (lnsOf (tongueT qs)) = none := by
    rw [tn]
    exact fw_lines (k := 0) (os := []) (by omega) qk.1 qk.2.1 (fun _ _ z => nomatch z)
  have tok : LnOk (lnsOf (tongueT qs)) := by
    rw [tn]
    refine ⟨by rw [List.length_map]; omega, fun l hl => ?_⟩
    obtain ⟨r, hr, rfl⟩ := List.mem_map.mp hl
    exact (line_good (qk.1 r hr)).mono (by decide)
  have fsm : ∀ f ∈ fdsOf (lnsOf (tongueT qs)), FdSm f := by
    rw [tn, fds_lines qk.1]
    intro f hf
    obtain ⟨r, hr, rfl⟩ := List.mem_map.mp hf
    exact fdR_sm (qk.1 r hr)
  refine ⟨x, dx, tongueT qs, rfl, upd_same, by omega, tok, tb5.ext sx, fsm, fun _ H6 x6 tb6 tg6 tw6 => ⟨rfl, ?_⟩, fun p' ep => by rw [tf] at ep; cases ep⟩
  have e56 : LamX.ExtN H5 H6 := fun b o z n => x6 b o (ne_of_none z hx) (sx _ _ z) n
  have p6 := penN p5 e56
  have rx6 := (rx.same s5).ext e56
  have tg6' : TgAt CG H6 x (tongueT qs) := by
    obtain ⟨dg, rt, wi, rd, dd, b, pp, rs', g1, g2, _⟩ := tg6
    exact ⟨dg, rt, wi, rd, g1, g2⟩
  have tq6 : TgQ P w K CR CD CG H6 x (qs.map fdR) (tongueT qs) := by
    obtain ⟨dg, rt, wi, rd, dd, b, pp, rs', g1, g2, g3, g4, g5, g6⟩ := tg6
    rw [tn, fds_lines qk.1] at g5 g6
    exact ⟨dg, rt, wi, rd, g1, dd, b, pp, rs', g3, g4, g5, g6⟩
  rw [tn, fds_lines qk.1] at tw6
  clear tg6
  refine ⟨szB (by decide), fun B hB => ⟨_, _, rfl, ?_⟩⟩
  have sB := same1 hB (.lst [])
  have hBR : B ≠ R := fun z => by
    obtain ⟨rs', g1, _⟩ := rx6
    rw [← z, hB] at g1; cases g1
  have nBp := p6.ne hB
  have hB6 := upd_same (H := H6) (a := B) (o := .lst [])
  refine ⟨_, rfl, ?_⟩
  intro y dy hy hdy ney
  have sy := same_new (same1 hdy (.own y)) (by rw [upd_ne ney.symm]; exact hy) (.ins CM dy [])
  refine ⟨y, dy, x, rfl, upd_same, fun H7 x7 rm7 => ⟨rfl, ?_⟩⟩
  have s67 : Same H6 H7 := fun b o z => x7 b o (ne_of_none (sB _ _ z) hy) (sy _ _ (sB _ _ z))
  have hB7 : H7 B = some (.lst []) := x7 _ _ (ne_of_none hB6 hy) (sy _ _ hB6)
  have p7 := p6.same s67
  have tb7 := tb6.ext s67
  have li7 : LawIn P w K CR CD CG CM R x y qs H7 := ⟨rx6.same s67, tq6.kp (.of s67), tw6.ks (.of s67), rm7⟩
  have tg7 : TgAt CG H7 x (tongueT qs) := by
    obtain ⟨dg, rt, wi, rd, g1, g2⟩ := tg6'
    exact ⟨dg, rt, wi, rd, s67 _ _ g1, s67 _ _ g2⟩
  let σ0 : (Option V) → (Option V) → (Option V) → (Option V) → (Option V) → (Option V) → (Option V) → (Option V) → (Option V) → L2.St := fun v7 v8 v9 v10 v11 v12 v13 v14 v15 => [some (.ref a), some (.ref p), some (.int ((0 : Int) + (i : Int))), some (.ref R), some (.ref x), some (.ref B), some (.ref y), v7, v8, v9, v10, v11, v12, v13, v14, v15, none, none, none]
  refine ⟨fun σ' H' => Same H7 H' ∧ σ' = σ0 v7 v8 v9 v10 v11 v12 v13 v14 v15, ?_, ?_⟩
  · have clG := A0.iG.cl
    have clM := AM.iM.cl
    have wl := wtS_le qk.1
    have ew := wtOf_eq qk.1
    obtain ⟨dw, tw, rt, rd, hw⟩ := li7.2.2.1
    obtain ⟨dm, b0, hm, _⟩ := li7.2.2.2
    refine ⟨_, rfl, x, CG, dw, _, _, rfl, hw, clG, A0.g3, rfl, .inr ⟨_, rfl, by rw [ew]; exact wt_scr (by omega), _, rfl, R, qs, rfl, li7.1, qk, .inr ⟨_, rfl, wt_scr (by omega), rfl, _, rfl, ?_⟩⟩⟩
    refine ifn (by rw [ew, decide_eq_true rfl]; rfl) ?_
    refine ⟨_, rfl, y, CM, dm, _, _, rfl, hm, clM, AM.m1, rfl, _, rfl, ?_⟩
    obtain ⟨da, ra, wa, rda, g1, g2⟩ := tg7
    refine ⟨x, x, _, da, da, _, _, rfl, rfl, g1, g1, ⟨tongueT qs, tongueT qs, ⟨da, ra, wa, rda, g1, g2⟩, ⟨da, ra, wa, rda, g1, g2⟩, rfl⟩, fun H8 s8 => ?_⟩
    refine ⟨_, rfl, ifn (by rw [decide_eq_true rfl]; rfl) ?_⟩
    exact ⟨s8, rfl⟩
  rintro σ' H8 ⟨s8, rfl⟩
  have li8 := li7.same s8
  have p8 := p7.same s8
  have tb8 := tb7.ext s8
  have ml8 : MtL (qs.map fdR) (rsQ qs) B [] H8 := ⟨s8 _ _ hB7, (fun _ z => nomatch z), List.nodup_nil⟩
  clear tg7 hB7 s8 li7 p7 tb7 x7 s67 sy hB6 sB tg6' tq6 tw6 rm7 rx6 p6 tb6 e56 x6 sx sx1 p5 tb5 s5 rx tb4 r5 hR p4 p3 k4 k3
  have n97 : NoIn (rsQ qs) 97 := mk_no qk (by decide) (by decide)
  have n32 : NoIn (rsQ qs) 32 := mk_no qk (by decide) (by decide)
  have hruR : (qs.map fdR).map ruOf = rsQ qs := ruR_map qs
  refine ⟨szB (show 3 ≤ 1000000 by decide), fun T1 hT1 => ⟨T1, rfl, ⟨_, SqT.of upd_same⟩, ?_⟩⟩
  have sT := same1 hT1 (.tup [.int 9, .int 6, .int 3])
  have hT2 := upd_same (H := H8) (a := T1) (o := .tup [.int 9, .int 6, .int 3])
  generalize upd H8 T1 (.tup [.int 9, .int 6, .int 3]) = Ha at sT hT2 ⊢
  refine for_tup (K := K) (a := T1) (xs := [.int 9, .int 6, .int 3]) (fun j σ H' => ∃ (ms : List MtR) (v7 v8 v9 v10 v11 v12 v13 v14 v15 : Option V), σ = σ0 v7 v8 v9 v10 v11 v12 v13 v14 v15 ∧ H' T1 = some (.tup [.int 9, .int 6, .int 3]) ∧ LawIn P w K CR CD CG CM R x y qs H' ∧ MtL (qs.map fdR) (rsQ qs) B ms H' ∧ ms.length ≤ 40 * j ∧ PenAt H' p c (i * 40000 + 401 + j * 8000) ∧ LamX.Tabs (T0 P0) H' ∧ (j = 0 ∨ ∃ (G D E : Addr) (t : List Nat) (b : Bool) (sv pv : List V) (st : List (Md × List Nat)) (tl : List (List Nat)), v10 = some (.ref G) ∧ v11 = some (.ref D) ∧ v12 = some (.ref E) ∧ Last (qs.map fdR) (rsQ qs) G D E t b sv pv st tl H'))
    ⟨[], v7, v8, v9, v10, v11, v12, v13, v14, v15, rfl, hT2, li8.same sT, ml8.same sT, Nat.zero_le _, p8.same sT, tb8.ext sT, .inl rfl⟩ (fun j σ H' _ ⟨_, _, _, _, _, _, _, _, _, _, _, z, _⟩ => SqT.of z) ?_ ?_
  · clear tb8 p8 ml8 li8 sT hT2
    rintro j vv σ H9 hj ⟨ms, v7, v8, v9, v10, v11, v12, v13, v14, v15, rfl, hT9, li9, ml9, msl, p9, tb9, -⟩
    obtain ⟨n, rfl, hn9, hj3⟩ := three_of hj
    have hBm := ml9.1
    refine ⟨_, rfl, _, rfl, _, rfl, p, c, R, i * 40000 + 401 + j * 8000, n, qs, rfl, p9, by omega, by omega, li9.1, qk, fun Hb t kb pb ht htc => ⟨_, rfl, p, c, i * 40000 + 401 + j * 8000 + 200, 2, rfl, pb, by omega, by decide, by decide, fun Hc d kc pc hd => ⟨szB (show 2 ≤ 1000000 by decide), fun T2 hT2 => ⟨T2, _, rfl, SqT.of upd_same, rfl, _, _, rfl, _, _, rfl, rfl, ?_⟩⟩⟩⟩
    have kd : Ks H9 (upd Hc T2 (.tup [.str (S t), .int (d : Int)])) := (kb.trans kc).trans (.of (same1 hT2 _))
    have pd := pc.same (same1 hT2 (.tup [.str (S t), .int (d : Int)]))
    generalize upd Hc T2 (.tup [.str (S t), .int (d : Int)]) = Hd at kd pd ⊢
    let b : Bool := decide (0 < d)
    refine ⟨_, rfl, _, rfl, fun D2 hD2 => ?_⟩
    have hz : (S t).cps.size = t.length := S_len t
    refine lc_it (walk_str (z := S t)) (fun q H' => Same Hd H' ∧ H' D2 = some (.lst (((hid b t).take q).map sgV))) ⟨same1 hD2 _, upd_same⟩ (fun _ _ _ _ => trivial) (fun q x' H2 H3 hi e v => ?_) (fun He e => ?_)
    · obtain ⟨eH, c', hc, rfl⟩ := v
      subst eH
      have hc' : t[q]? = some c' := by rw [← hc]; exact Array.getElem?_toList
      have hq := (List.getElem?_eq_some_iff.mp hc').1
      refine ⟨rfl, ?_⟩
      dsimp only [tYes]
      rw [if_pos rfl]
      have hg : (hid b t)[q]? = some (if c' = 97 ∧ b = true then none else some c') := by
        unfold hid; rw [List.getElem?_map, hc']; rfl
      have nx : ∀ u : V, u = sgV (if c' = 97 ∧ b = true then none else some c') → ∃ acc, H3 D2 = some (.lst acc) ∧ acc.length < sizeLine ∧ (Same Hd (upd H3 D2 (.lst (acc ++ [u]))) ∧ (upd H3 D2 (.lst (acc ++ [u]))) D2 = some (.lst (((hid b t).take (q + 1)).map sgV))) := fun u hu => by
        refine ⟨_, e.2, szL (by rw [List.length_map, List.length_take]; omega), fun c o k => by rw [upd_ne (ne_of_none k hD2)]; exact e.1 _ _ k, ?_⟩
        rw [upd_same, List.take_add_one, hg, List.map_append, hu]; rfl
      have ea : decide (V.str ⟨#[c']⟩ = V.str (Str.ofString "a")) = decide (c' = 97) := by
        have : Str.ofString "a" = S [97] := by decide +kernel
        rw [this]
        refine decide_eq_decide.mpr ⟨fun z => ?_, fun z => by rw [z]; first | done | rfl⟩
        have : [c'] = [97] := S_inj (V.str.inj z)
        cases this
        first | done | rfl
      refine ⟨_, rfl, rfl, _, rfl, ?_⟩
      rw [ea]
      by_cases h97 : c' = 97
      · refine ify (decide_eq_true h97) ?_
        refine ⟨_, rfl, _, _, rfl, rfl, _, rfl, ?_⟩
        by_cases h0 : 0 < d
        · refine ify (decide_eq_true (by omega)) ?_
          exact nx _ (by rw [if_pos ⟨h97, decide_eq_true h0⟩]; first | done | rfl)
        · refine ifn (decide_eq_false (by omega)) ?_
          exact ⟨_, rfl, nx _ (by rw [if_neg (fun z => h0 (of_decide_eq_true z.2))]; first | done | rfl)⟩
      · refine ifn (decide_eq_false h97) ?_
        exact ⟨_, rfl, nx _ (by rw [if_neg (fun z => h97 z.1)]; first | done | rfl)⟩
    obtain ⟨se, hDe⟩ := e
    rw [hz, List.take_of_length_le (by rw [hid_len]; exact Nat.le_refl _)] at hDe
    have ke : Ks H9 He := kd.trans (.of se)
    have lie := li9.ks ke
    refine ⟨_, rfl, _, rfl, y, x, D2, qs.map fdR, tongueT qs, hid b t, rfl, lie.2.2.2, lie.2.1, qk.g, hDe, by rw [hid_len]; omega, fun Hf r' D E sv pv st tl' sf hDn hEn hr' hD hE fd sts tls => ⟨r', _, rfl, SqT.of hr', rfl, _, _, rfl, _, _, rfl, rfl, ?_⟩⟩
    rw [hruR] at fd
    have kf : Ks H9 Hf := ke.trans (.of sf)
    have la : Last (qs.map fdR) (rsQ qs) D2 D E t b sv pv st tl' Hf := ⟨sf _ _ hDe, hD, hE, fd, sts, tls, by omega, htc⟩
    have lif := li9.ks kf
    have svl := sts.1
    have stl := fd.l1
    rw [hid_len] at stl
    have hst : st[t.length]? = some st[t.length] := List.getElem?_eq_getElem (by omega)
    have hsv : sv[t.length]? = some sv[t.length] := List.getElem?_eq_getElem (by omega)
    have hsd := sts.2 _ _ _ hsv hst
    have al : atI sv (-1) = some sv[t.length] := by
      unfold atI ixN
      rw [if_neg (by decide), if_pos (by omega)]
      show sv[((-1 : Int) + (sv.length : Int)).toNat]? = _
      rw [show ((-1 : Int) + (sv.length : Int)).toNat = t.length by omega]
      exact hsv
    have mcl := fed_mac fd t.length _ (by rw [hid_len]; exact Nat.le_refl _) hst
    have mll := (mac_all qk.ok mcl).2.1
    rw [List.length_map, List.length_take, hid_len] at mll
    obtain ⟨dm, b0, hm, _⟩ := id lif.2.2.2
    refine ⟨_, rfl, _, rfl, _, rfl, _, rfl, _, rfl, y, dm, _, rfl, hm, rfl, _, rfl, _, rfl, D, sv, _, _, rfl, rfl, SqL.of hD, al, ?_⟩
    refine ⟨y, x, qs.map fdR, tongueT qs, sv[t.length], st[t.length].1, st[t.length].2, rfl, lif.2.2.2, lif.2.1, qk.g, hsd, by omega, fun Hg p1 sg hp1 => ?_⟩
    rw [hruR] at hp1
    have lag := la.ks (.of sg)
    refine ⟨R, D2, E, qs, t, b, pv, p1, st, tl', _, _, rfl, (lif.same sg).1, qk, by omega, htc, lag.1, lag.2.2.1, fd, lag.2.2.2.2.2.1, hst, hp1, fun Hh sh => ⟨_, rfl, ifF ?_⟩⟩
    have kh : Ks H9 Hh := kf.trans ((Ks.of sg).trans (.of sh))
    have lah := lag.ks (.of sh)
    have lih := li9.ks kh
    have mlh := ml9.ks kh
    have ph := ((pd.same se).same sf).same (fun b o z => sh _ _ (sg _ _ z))
    have tbh := tabs_ks tb9 kh
    have hTh := kh.tup hT9
    have nBG : B ≠ D2 := fun z => by
      have := kd.lst hBm
      rw [z, hD2] at this; cases this
    have hBe := ke.lst hBm
    have nBD : B ≠ D := fun z => by rw [z, hDn] at hBe; cases hBe
    have nBE : B ≠ E := fun z => by rw [z, hEn] at hBe; cases hBe
    clear hp1 hm al hsd hsv hst mcl mll tls sts hE hD hr' hDe hD2 lif kf lie ke pd kd pb kb pc kc p9 tb9 li9 ml9 hT9 la lag sf sg sh se hBm hBe hDn hEn
    refine ⟨_, rfl, _, sv.length, rfl, .inl ⟨sv, SqL.of lah.2.1, rfl⟩, ((sv.length : Nat) : Int), rfl, by omega, by omega, ?_⟩
    rw [show ((sv.length : Nat) : Int).toNat = sv.length from Int.toNat_natCast _]
    refine for_range (lo := 0) (n := sv.length) (fun k σ H' => ∃ (ms : List MtR) (v13 v14 v15 : Option V), σ = σ0 (some (.int (n : Int))) (some (.str (S t))) (some (.int (d : Int))) (some (.ref D2)) (some (.ref D)) (some (.ref E)) v13 v14 v15 ∧ H' T1 = some (.tup [.int 9, .int 6, .int 3]) ∧ LawIn P w K CR CD CG CM R x y qs H' ∧ MtL (qs.map fdR) (rsQ qs) B ms H' ∧ ms.length ≤ 40 * j + k ∧ PenAt H' p c (i * 40000 + 401 + j * 8000 + 201 + 200 * k) ∧ LamX.Tabs (T0 P0) H' ∧ Last (qs.map fdR) (rsQ qs) D2 D E t b sv pv st tl' H')
      ?_ ?_ ?_
    · exact ⟨ms, v13, v14, v15, rfl, hTh, lih, mlh, by omega, ph, tbh, lah⟩
    rotate_left
    · rintro σ Hi ⟨ms, v13, v14, v15, rfl, hT, li, ml, msl, pi, tb, la⟩
      exact ⟨ms, _, _, _, _, _, _, _, _, _, rfl, hT, li, ml, by omega, pi.mono (by omega), tb, .inr ⟨D2, D, E, t, b, sv, pv, st, tl', rfl, rfl, rfl, la⟩⟩
    clear hTh lih mlh ph tbh lah kh msl
    rintro k σ Hi hk ⟨ms, v13, v14, v15, rfl, hTi, lii, mli, msi, pi, tbi, lai⟩
    have svk : sv[k]? = some sv[k] := List.getElem?_eq_getElem hk
    have stk : st[k]? = some st[k] := List.getElem?_eq_getElem (by omega)
    have hsk := lai.2.2.2.2.1.2 k _ _ svk stk
    have mck := fed_mac fd k _ (by rw [hid_len]; omega) stk
    generalize st[k] = zk at stk hsk mck
    obtain ⟨mk, wk⟩ := zk
    dsimp only at hsk mck
    obtain ⟨bk, evk, hbk, mok⟩ := id hsk
    rw [evk] at svk hsk
    rw [hid_take] at mck
    have mlk := (mac_all qk.ok mck).2.1
    rw [List.length_map, hid_len, List.length_take] at mlk
    have tks : ∀ c ∈ t.take k, c < 1000 := fun c hc => htc c (List.mem_of_mem_take hc)
    have wks := mac_sm qk.ok mck (hid_sm tks)
    have e0 : (0 : Int) + (k : Int) = (k : Int) := by omega
    have at1 : atI sv ((0 : Int) + (k : Int)) = some (.ref bk) := by rw [e0]; exact atI_nat svk
    have hDi := lai.2.1
    refine ⟨_, rfl, _, rfl, D, sv, _, _, rfl, rfl, SqL.of hDi, at1, _, _, _, _, true, rfl, .ty "tuple", .base (.tup hbk), kit_ty (by decide +kernel), _, rfl, ifF ?_⟩
    refine ⟨_, rfl, B, rfl, ⟨_, SqL.of mli.1⟩, fun D3 hD3 => ?_⟩
    refine lc_list (K := K) (a := B) (xs := ms.map fun r => V.ref r.A) (fun q H' => Same Hi H' ∧ H' D3 = some (.lst ((knw (ms.take q) mk wk).map fun r => V.ref r.A))) ⟨same1 hD3 _, upd_same⟩ (fun q H' _ z => SqL.of (z.1 _ _ mli.1)) ?_ ?_
    · rintro q v H' hq ⟨g1, g2⟩
      rw [List.getElem?_map] at hq
      obtain ⟨r, hr, rfl⟩ := Option.map_eq_some_iff.mp hq
      have rin := (mli.2.1 r (List.mem_of_getElem? hr)).tk (fun b xs z => g1 _ _ z)
      have rws : ∀ c ∈ r.w, c < 1000 := by
        obtain ⟨_, _, ⟨ks, mc⟩, _, hs⟩ := rin
        exact mac_sm qk.ok mc (hid_sm hs)
      have kt := knw_take (m := mk) (w := wk) hr
      refine ⟨rfl, _, rfl, r.A, _, _, _, rfl, rfl, SqT.of rin.1, rfl, _, rfl, _, rfl, D, sv, _, _, rfl, rfl, SqL.of (g1 _ _ hDi), at1, dSt r.m r.w, dSt mk wk, sdV_dp rin.2.1, sdV_dp (hsk.same g1), dSt_shaped rws, dSt_shaped wks, _, rfl, ?_⟩
      rw [dSt_eqv]
      by_cases hc : r.m = mk ∧ r.w = wk
      · rw [if_pos hc] at kt
        refine ify (decide_eq_true hc) ⟨_, rfl, _, g2, szL ?_, fun c o z => by rw [upd_ne (ne_of_none z hD3)]; exact g1 _ _ z, ?_⟩
        · rw [List.length_map]
          have := List.length_filter_le (fun r : MtR => decide (r.m = mk ∧ r.w = wk)) (ms.take q)
          rw [List.length_take] at this
          show (knw (ms.take q) mk wk).length ≤ 1000000
          unfold knw
          omega
        · rw [upd_same, kt, List.map_append]; rfl
      · rw [if_neg hc, List.append_nil] at kt
        refine ifn (decide_eq_false hc) ⟨g1, ?_⟩
        rw [kt]; exact g2
    rintro Hj ⟨gj, hD3j⟩
    rw [List.length_map, List.take_of_length_le (Nat.le_refl _)] at hD3j
    have hkl : ∀ r ∈ knw ms mk wk, r ∈ ms ∧ r.m = mk ∧ r.w = wk := fun r hr => by
      obtain ⟨z1, z2⟩ := List.mem_filter.mp hr
      exact ⟨z1, of_decide_eq_true z2⟩
    have pj := pi.same gj
    refine ⟨_, rfl, _, rfl, p, c, R, _, 3, qs, rfl, pj, by omega, by decide, (lii.same gj).1, qk, fun Hk u kk pk hu huc => ⟨_, _, rfl, ?_⟩⟩
    have kik : Ks Hi Hk := (Ks.of gj).trans kk
    have hD3k := kk.lst hD3j
    have mlk2 := mli.ks kik
    obtain ⟨dt1, dt2, dt3⟩ := mts_data (K := K) qk.ok (ms := knw ms mk wk) (H := Hk) fun r hr => mlk2.2.1 r (hkl r hr).1
    refine ⟨_, rfl, szB (by decide), fun A0' hA0 => ?_⟩
    have sA := same1 hA0 (.lst [])
    have hAn := upd_same (H := Hk) (a := A0') (o := .lst [])
    generalize upd Hk A0' (.lst []) = Hl at sA hAn ⊢
    have kil : Ks Hi Hl := kik.trans (.of sA)
    have hD3l := sA _ _ hD3k
    obtain ⟨dt1, dt2, dt3⟩ := mts_data (K := K) qk.ok (ms := knw ms mk wk) (H := Hl) fun r hr => (mli.ks kil).2.1 r (hkl r hr).1
    refine ⟨.list ((knw ms mk wk).map dMt), .list [], .lst (SqL.of hD3l) dt1, .lst (SqL.of hAn) .nil, shaped_of dt2 (by simp only [PyData.depth]; omega), by decide +kernel, _, rfl, ?_⟩
    rw [mts_nil]
    have mll := mli.ks kil
    have lil := lii.ks kil
    have lal := lai.ks kil
    have tbl := tabs_ks tbi kil
    have hTl := kil.tup hTi
    have pl := pk.same sA
    have skl : SdV (qs.map fdR) Hl (.ref bk) mk wk := lal.2.2.2.2.1.2 k _ _ svk stk
    have hDl := lal.2.1
    by_cases hk0 : knw ms mk wk = []
    · refine ify (decide_eq_true hk0) ?_
      refine ⟨_, rfl, .inl ⟨rfl, _, SqL.of mll.1⟩, _, rfl, _, rfl, D, sv, _, _, rfl, rfl, SqL.of hDl, at1, _, rfl, _, rfl, _, rfl, _, rfl, szB (by rw [S_len]; omega), ?_⟩
      rw [e0, sliceU]
      refine ⟨szB (show 2 ≤ 1000000 by decide), fun T3 hT3 => ?_⟩
      have s3 := same1 hT3 (.tup [.ref bk, .str (S (t.take k))])
      have hT3n := upd_same (H := Hl) (a := T3) (o := .tup [.ref bk, .str (S (t.take k))])
      generalize upd Hl T3 (.tup [.ref bk, .str (S (t.take k))]) = Hm at s3 hT3n ⊢
      have mlm := mll.same s3
      refine ⟨B, _, _, rfl, rfl, mlm.1, szL (by rw [List.length_map]; omega), ?_⟩
      let nr : MtR := ⟨T3, .ref bk, t.take k, b, mk, wk⟩
      have hnr : MtIn (qs.map fdR) (rsQ qs) Hm nr := ⟨hT3n, skl.same s3, ⟨_, mck⟩, by show (t.take k).length ≤ 36; rw [List.length_take]; omega, tks⟩
      have lam := lal.ks (.of s3)
      refine ⟨ms ++ [nr], _, _, _, rfl, ?_, (lil.same s3).upd mlm.1 hBR, mlm.put hnr hk0, by rw [List.length_append]; show ms.length + 1 ≤ 40 * j + (k + 1); omega, ?_, ?_, lam.upd mlm.1 nBG nBD nBE⟩
      · rw [upd_ne fun z => by have := s3 _ _ hTl; rw [z, mlm.1] at this; cases this]
        exact s3 _ _ hTl
      · exact ((pl.same s3).upd nBp.1 nBp.2).mono (by omega)
      · exact tabs_upd (tbl.ext s3) mlm.1 (fun _ z => nomatch z) (fun _ _ z => by unfold LamX.CodeO at z; cases z)
    · refine ifn (decide_eq_false hk0) ?_
      obtain ⟨r, rest, hr⟩ := List.exists_cons_of_ne_nil hk0
      obtain ⟨rm, er1, er2⟩ := hkl r (by rw [hr]; exact .head _)
      have rin := mll.2.1 r rm
      obtain ⟨ra, _, ⟨ks', mc'⟩, rl, rs'⟩ := rin
      rw [er1, er2] at mc'
      have mcl := (mac_all qk.ok mc').2.1
      rw [List.length_map, hid_len] at mcl
      rw [hr] at hD3l
      have at3 : atI ((r :: rest).map fun r => V.ref r.A) 0 = some (.ref r.A) := atI_nat (j := 0) rfl
      refine ⟨_, rfl, _, rfl, D3, _, _, _, rfl, rfl, SqL.of hD3l, at3, r.A, _, _, _, rfl, rfl, SqT.of ra, rfl, _, rfl, _, rfl, _, rfl, _, rfl, szB (by rw [S_len]; omega), ?_⟩
      rw [e0, sliceU]
      obtain ⟨dm, b0, hm, _⟩ := id lil.2.2.2
      refine ⟨_, rfl, _, rfl, y, dm, _, rfl, hm, rfl, _, rfl, _, rfl, D, sv, _, _, rfl, rfl, SqL.of hDl, (by rw [← e0]; exact at1), ?_⟩
      refine ⟨y, x, qs.map fdR, tongueT qs, .ref bk, mk, wk, rfl, lil.2.2.2, lil.2.1, qk.g, skl, by omega, fun Hm p1 sm hp1 => ?_⟩
      rw [hruR] at hp1
      obtain ⟨pb, us, rfl, hpb, hul, _⟩ := hp1
      have hus : us.length = wk.length := by
        rw [hul, List.length_zip, List.length_map, mac_left qk mck]; omega
      refine ⟨_, us.length, rfl, .inr ⟨us, SqT.of hpb, rfl⟩, ?_⟩
      have tkl : (t.take k).length = k := by rw [List.length_take]; omega
      refine ⟨R, qs, r.t, t.take k, u, us.length, rfl, (lil.same sm).1, qk, by omega, by omega, by omega, by omega, fun Hn sn => ⟨_, rfl, ?_⟩⟩
      have ak := alike_mt qk mc' mck u
      rw [← hus] at ak
      refine ifn (by rw [decide_eq_true ak]; rfl) ?_
      have kln : Ks Hl Hn := .of fun b o z => sn _ _ (sm _ _ z)
      exact ⟨ms, _, _, _, rfl, kln.tup hTl, lil.ks kln, mll.ks kln, by omega, (pl.same fun b o z => sn _ _ (sm _ _ z)).mono (by omega), tabs_ks tbl kln, lal.ks kln⟩
  · rintro σ Hq ⟨ms, v7, v8, v9, v10, v11, v12, v13, v14, v15, rfl, hTq, liq, mlq, msq, pq, tbq, hlast⟩
    have l3 : ([V.int 9, V.int 6, V.int 3] : List V).length = 3 := rfl
    rw [l3] at msq pq hlast
    obtain ⟨G, D, E, t, b, sv, pv, st, tl', rfl, rfl, rfl, la⟩ := hlast.resolve_left (by decide)
    have fd := la.2.2.2.1
    have sts := la.2.2.2.2.1
    have tls := la.2.2.2.2.2.1
    have htl := la.2.2.2.2.2.2.1
    have htc := la.2.2.2.2.2.2.2
    have hG := la.1
    have l1 := fd.l1
    have l2 := fd.l2
    have svl := sts.1
    have pvl := tls.1
    have gl := hid_len b t
    have gml : ((hid b t).map sgV).length = t.length := by rw [List.length_map, gl]
    -- the numbers from the last to the first
    refine ⟨_, rfl, _, t.length, rfl, .inl ⟨_, SqL.of hG, gml.symm⟩, ((t.length : Nat) : Int), rfl, by omega, by omega, fun D4 hD4 => ?_⟩
    rw [show ((t.length : Nat) : Int).toNat = t.length from Int.toNat_natCast _]
    refine lc_range (fun q H' => Same Hq H' ∧ H' D4 = some (.lst ((List.range q).map fun q : Nat => V.int ((t.length : Int) - 1 - (q : Int))))) ⟨same1 hD4 _, upd_same⟩ ?_ ?_
    · rintro q H' hq ⟨g1, g2⟩
      refine ⟨rfl, ?_⟩
      dsimp only [tYes]
      rw [if_pos rfl]
      refine ⟨_, rfl, _, t.length, rfl, .inl ⟨_, SqL.of (g1 _ _ hG), gml.symm⟩, _, _, rfl, rfl, _, rfl, _, _, rfl, rfl, ?_⟩
      refine ⟨_, g2, szL (by rw [List.length_map, List.length_range]; omega), fun c o z => by rw [upd_ne (ne_of_none z hD4)]; exact g1 _ _ z, ?_⟩
      rw [upd_same, List.range_succ, List.map_append, show (0 : Int) + (q : Int) = (q : Int) by omega]; rfl
    rintro Hr ⟨gr, hD4r⟩
    refine ⟨D4, rfl, ⟨_, SqL.of hD4r⟩, ?_⟩
    have lar := la.ks (.of gr)
    have lir := liq.same gr
    have fdg := fd.go
    refine for_list (K := K) (a := D4) (xs := (List.range t.length).map fun q : Nat => V.int ((t.length : Int) - 1 - (q : Int))) (fun q σ H' => Same Hr H' ∧ ∃ v13 : Option V, σ = σ0 v7 v8 v9 (some (.ref G)) (some (.ref D)) (some (.ref E)) v13 v14 v15) ?_ (fun q σ H' _ z => SqL.of (z.1 _ _ hD4r)) ?_ ?_
    · exact ⟨fun _ _ z => z, v13, rfl⟩
    · rintro q vv σ Hs hq ⟨ss, v13', rfl⟩
      rw [List.getElem?_map] at hq
      obtain ⟨q', hq', rfl⟩ := Option.map_eq_some_iff.mp hq
      have hql := (List.getElem?_eq_some_iff.mp hq').1
      rw [List.length_range] at hql
      rw [List.getElem?_range hql] at hq'
      cases hq'
      have ek : (t.length : Int) - 1 - (q : Int) = ((t.length - 1 - q : Nat) : Int) := by omega
      have ek1 : (t.length : Int) - 1 - (q : Int) + 1 = ((t.length - 1 - q + 1 : Nat) : Int) := by omega
      have hkl : t.length - 1 - q < t.length := by omega
      generalize t.length - 1 - q = k at ek ek1 hkl
      have las := lar.ks (.of ss)
      have lis := lir.same ss
      have svk : sv[k]? = some sv[k] := List.getElem?_eq_getElem (by omega)
      have svk1 : sv[k + 1]? = some sv[k + 1] := List.getElem?_eq_getElem (by omega)
      have pvk : pv[k]? = some pv[k] := List.getElem?_eq_getElem (by omega)
      have stk : st[k]? = some st[k] := List.getElem?_eq_getElem (by omega)
      have stk1 : st[k + 1]? = some st[k + 1] := List.getElem?_eq_getElem (by omega)
      have tlk : tl'[k]? = some tl'[k] := List.getElem?_eq_getElem (by omega)
      have gk : (hid b t)[k]? = some (hid b t)[k] := List.getElem?_eq_getElem (by omega)
      have at1 : atI sv ((t.length : Int) - 1 - (q : Int)) = some sv[k] := by rw [ek]; exact atI_nat svk
      have at2 : atI ((hid b t).map sgV) ((t.length : Int) - 1 - (q : Int)) = some (sgV (hid b t)[k]) := by rw [ek]; exact atI_nat (by rw [List.getElem?_map, gk]; rfl)
      have at3 : atI sv ((t.length : Int) - 1 - (q : Int) + 1) = some sv[k + 1] := by rw [ek1]; exact atI_nat svk1
      have at4 : atI pv ((t.length : Int) - 1 - (q : Int)) = some pv[k] := by rw [ek]; exact atI_nat pvk
      have sd := fdg k _ _ _ _ gk stk stk1 tlk
      have hsk := las.2.2.2.2.1.2 k _ _ svk stk
      have hsk1 := las.2.2.2.2.1.2 (k + 1) _ _ svk1 stk1
      have hpk := las.2.2.2.2.2.1.2 k _ pvk
      have psm := prsOf_sm qk htc fd hkl
      have ep : prsOf (hid b t) st tl' k = (st[k].2.map some ++ [(hid b t)[k]]).zip tl'[k] := by
        unfold prsOf; rw [stk, gk, tlk]; rfl
      have mck := fed_mac fd k _ (by omega) stk
      have mck1 := fed_mac fd (k + 1) _ (by omega) stk1
      have mlk := (mac_all qk.ok mck).2.1
      rw [hid_take, List.length_map, hid_len, List.length_take] at mlk
      rw [hid_take] at mck1
      have ws1 := mac_sm qk.ok mck1 (hid_sm fun c hc => htc c (List.mem_of_mem_take hc))
      rw [ep] at hpk psm
      generalize (hid b t)[k] = g at at2 sd hpk psm
      generalize st[k] = zk at hsk sd hpk mlk psm
      generalize st[k + 1] = zk1 at hsk1 sd ws1
      generalize tl'[k] = kk at sd hpk psm
      generalize sv[k] = sk at at1 hsk
      generalize sv[k + 1] = sk1 at at3 hsk1
      generalize pv[k] = pk' at at4 hpk
      obtain ⟨dm, b0, hm, _⟩ := id lis.2.2.2
      refine ⟨_, rfl, y, dm, _, rfl, hm, rfl, _, rfl, _, rfl, D, sv, _, _, rfl, rfl, SqL.of las.2.1, at1, _, rfl, _, rfl, G, _, _, _, rfl, rfl, SqL.of las.1, at2, ?_⟩
      refine ⟨y, x, qs.map fdR, tongueT qs, sk, zk.1, zk.2, g, rfl, lis.2.2.2, lis.2.1, qk.g, hsk, by omega, fun Ht r s1 p1 m' w' ks st' hr hs1 hp1 hsd => ?_⟩
      rw [hruR] at hsd
      obtain ⟨e1, e2, e3⟩ := sd_det hsd sd
      rw [e1, e2] at hs1
      rw [e3] at hp1
      refine ⟨_, rfl, _, rfl, _, _, rfl, rfl, D, sv, _, _, rfl, rfl, SqL.of (st' _ _ las.2.1), at3, _, rfl, _, rfl, E, pv, _, _, rfl, rfl, SqL.of (st' _ _ las.2.2.1), at4, szB (show 2 ≤ 1000000 by decide), fun T hT => ?_⟩
      have sT := same1 hT (.tup [sk1, pk'])
      have hTn := upd_same (H := Ht) (a := T) (o := .tup [sk1, pk'])
      generalize upd Ht T (.tup [sk1, pk']) = Hu at sT hTn ⊢
      refine ⟨dMv zk1.1 zk1.2 ((zk.2.map some ++ [g]).zip kk), dMv zk1.1 zk1.2 ((zk.2.map some ++ [g]).zip kk), dMv_dp (sT _ _ hr) (hs1.same sT) (hp1.same sT), dMv_dp hTn ((hsk1.same st').same sT) ((hpk.same st').same sT), dMv_shaped ws1 psm, dMv_shaped ws1 psm, _, rfl, ?_⟩
      refine ifn (by rw [dMv_eqv ws1 psm]; rfl) ?_
      exact ⟨fun b o z => sT _ _ (st' _ _ (ss _ _ z)), _, rfl⟩
    · rintro σ Hs ⟨ss, v13', rfl⟩
      have lis := lir.same ss
      have mls := (mlq.same gr).same ss
      have ew := wtOf_eq qk.1
      have ml := mts_len qk.ok mls.2.2 mls.2.1
      obtain ⟨dw, tw, rt, rd, hw⟩ := lis.2.2.1
      refine ⟨_, rfl, _, ms.length, rfl, .inl ⟨_, SqL.of mls.1, (List.length_map ..).symm⟩, _, rfl, x, CG, dw, _, _, rfl, hw, A0.iG.cl, A0.g3, rfl, _, _, rfl, rfl, _, rfl, ?_⟩
      refine ifn (decide_eq_false (by rw [ew]; omega)) ?_
      exact ⟨_, _, _, _, _, _, _, _, _, _, _, _, _, _, rfl, ((pq.same gr).same ss).mono (by omega), (tbq.ext gr).ext ss⟩

end
end Vf

set_option maxRecDepth 100000
set_option maxHeartbeats 4000000
namespace Vf
open PySem PySem.Spec PyProof.Rows L2 SX
/-! ### the law's call, with one table of code objects, at the one place where the guards are known -/
section
variable {P : Program} {w : World} {K : PySem.W.Frag} {mg mb : Str → Option Value} {fa a cc P0 : Addr} {fd : FuncData} {x : Str} {sp : Sp} {s : Shared} {ws : List Value} {ns : List Int}
theorem law_coreT (KX : K.In s.heap) (hn : s.heap.Ns mainGlobals mg) (hb : s.heap.Ns builtinsNs mb) (hbb : ∀ y : Str, y ≠ "__name__" → mb y = bootBuiltins y) (hl : s.heap.NoLimit) (hg : s.gens = #[])
    (hbm : ∃ (bm : Addr) (ob : Obj), mg "__builtins__" = some (.ref bm) ∧ bm ≠ builtinsNs ∧ s.heap.get? bm = some ob ∧ ob.cls = .type "module" ∧ ob.dict = some builtinsNs ∧ ob.data = .plain)
    (ha : s.heap.get? a = some { cls := .type "list", data := .seq ws.toArray }) (hT : s.heap.get? P0 = some { cls := .none, data := .fields #[] }) (nT : K.lookup P0 = none) (C : PySem.W.CodeHd s.heap cc P0)
    (F : ∀ b : Heap, K.In b → b.Ns mainGlobals mg → LamX.TabB b mg cc P0 → RunAt P w K mg b callerA fa fd [x] sp)
    (bind : ∀ (z : Shared) (u : Value), BindsTo z fd ⟨[u], []⟩ [(x, u)]) (H : Hp) (hP : H P0 = some (.tbl #[])) (hO : ∀ b, b ≠ P0 → H b = none ∨ ∃ o xs, H b = some (.frz o (.lst xs))) (hS : sp [.ref a] H (fun v _ => v = .bl true) noE) (ok : HOk P w H s.heap)
    (hA : ∀ b, H b ≠ none → b = a ∨ b = P0) (hK : H a ≠ none → K.lookup a = none) : codeAny (model P w) callerA (.call (.ref fa) ⟨[.ref a], []⟩) (LawEnd s) s := by
  have free : ∀ {b : Addr} {o : Obj}, s.heap.get? b = some o → (∀ vs n, o.data ≠ .seq vs n) → o.data ≠ .fields #[] → H b = none := fun {b o} e h1 h2 =>
    match q : H b with
    | none => rfl
    | some u => by
      rcases hA b (fun n => nomatch n.symm.trans q) with rfl | rfl
      · cases ha.symm.trans e
        exact (h1 _ _ rfl).elim
      · cases hT.symm.trans e
        exact (h2 rfl).elim
  have dictN : ∀ {b : Addr} {o : Obj} {es : Array DictEntry} {ep : Nat}, s.heap.get? b = some o → o.data = .dict es ep → H b = none := fun e d =>
    free e (fun vs n z => nomatch d.symm.trans z) fun z => nomatch d.symm.trans z
  have nsN : ∀ {b : Addr} {m : Str → Option Value}, s.heap.Ns b m → (hidT s.heap H).Ns b m := fun {b m} n => by
    obtain ⟨o, es, ep, e, d, r⟩ := n
    exact ⟨o, es, ep, hidT_get e (dictN e d), d, r⟩
  have kin : K.In (hidT s.heap H) := fun b o e => hidT_get (KX b o e) (match q : H b with
    | none => rfl
    | some u => by
      rcases hA b (fun n => nomatch n.symm.trans q) with rfl | rfl
      · cases (hK fun n => nomatch n.symm.trans q).symm.trans e
      · cases nT.symm.trans e)
  have lim : (hidT s.heap H).NoLimit := by
    obtain ⟨mc, l1, l2⟩ := hl
    exact ⟨mc, nsN l1, l2⟩
  have tb : LamX.TabB (hidT s.heap H) mg cc P0 := by
    refine ⟨?_, ?_, fun z => ?_⟩
    · obtain ⟨o, us, c1, c2, c3, c4, c5, c6, c7, g, k, dd, rest⟩ := C
      exact ⟨o, us, c1, c2, c3, c4, c5, c6, c7, hidT_get g (free g (fun _ _ z => nomatch dd.symm.trans z) fun z => by
        cases dd.symm.trans z
        cases rest.1), k, dd, rest⟩
    · obtain ⟨bm, ob, b1, b2, b3, b4, b5, b6⟩ := hbm
      refine ⟨bm, ob, b1, b2, fun z => ?_, fun z => ?_, hidT_get b3 (free b3 (fun _ _ z => nomatch b6.symm.trans z) fun z => nomatch b6.symm.trans z), b4, b5, b6⟩
      · obtain ⟨o, es, ep, e, hd, _⟩ := hn
        subst z
        cases e.symm.trans b3
        exact nomatch hd.symm.trans b6
      · subst z
        cases hT.symm.trans b3
        exact nomatch b6
    · obtain ⟨o, es, ep, e, hd, _⟩ := hn
      subst z
      cases hT.symm.trans e
      exact nomatch hd
  have e0 : Env0 P w K mg (hidT s.heap H) callerA [] s H := ⟨rfl, ⟨kin, nsN hn, ⟨mb, nsN hb, hbb⟩, lim⟩, fun _ _ e => of_hidT e, Nat.le_of_eq (hidT_size _ _), trivial, fun b z => absurd (show b ∈ ([] : List Addr) from z) List.not_mem_nil, ok, .of_eq hg⟩
  refine codeAny_mono (F _ kin (nsN hn) tb [] s H ⟨[.ref a], []⟩ [.ref a] [.ref a] _ e0 (bind s (.ref a)) (.cons rfl .nil) hS) fun r z h => ?_
  match r, h with
  | .error e, h => exact (show False from h).elim
  | .ok .next, h => exact (show False from h).elim
  | .ok .brk, h => exact (show False from h).elim
  | .ok .cont, h => exact (show False from h).elim
  | .ok (.ret u), h =>
    obtain ⟨v, H', os, bare, un, ok', rv, rfl⟩ := h
    cases (show u = Value.bool true from rv)
    have grown : ∃ more : Array Value, z.heap.get? P0 = some { cls := .none, data := .fields more } := by
      obtain ⟨more, q⟩ := un.tbls P0 #[] hP
      exact ⟨_, ok' P0 _ q⟩
    have keep : ∀ b o, b ≠ P0 → s.heap.get? b = some o → z.heap.get? b = some o := fun b o nb e => by
      rcases hO b nb with q | ⟨ob, xs, q⟩
      · exact un.keep b o e q (fun m => absurd (show b ∈ ([] : List Addr) from m) List.not_mem_nil) List.not_mem_nil
      · have g1 := (ok b _ q).1
        have g2 := (ok' b _ (un.frzs b ob _ q)).1
        cases e.symm.trans g1
        exact g2
    refine ⟨rfl, ⟨fun b o e => ?_, fun b o e => ?_⟩, os, bare⟩
    · by_cases nb : b = P0
      · subst nb
        cases hT.symm.trans e
        obtain ⟨more, hm⟩ := grown
        exact .inr (.inl ⟨(C.tab hT).isCodeTable, rfl, #[], more, rfl, by rw [Array.empty_append]; exact hm⟩)
      · exact .inl (keep b o nb e)
    · by_cases nb : b = P0
      · subst nb; exact grown.elim fun more hm => ⟨_, hm⟩
      · exact ⟨o, keep b o nb e⟩
theorem law_callGT (KX : K.In s.heap) (hn : s.heap.Ns mainGlobals mg) (hb : s.heap.Ns builtinsNs mb) (hbb : ∀ y : Str, y ≠ "__name__" → mb y = bootBuiltins y) (hl : s.heap.NoLimit) (hg : s.gens = #[])
    (hbm : ∃ (bm : Addr) (ob : Obj), mg "__builtins__" = some (.ref bm) ∧ bm ≠ builtinsNs ∧ s.heap.get? bm = some ob ∧ ob.cls = .type "module" ∧ ob.dict = some builtinsNs ∧ ob.data = .plain)
    (ha : s.heap.get? a = some { cls := .type "list", data := .seq ws.toArray }) (hi : IntsAre ws ns) (hz : ns.length ≤ sizeLine) (hT : s.heap.get? P0 = some { cls := .none, data := .fields #[] }) (nT : K.lookup P0 = none) (C : PySem.W.CodeHd s.heap cc P0)
    (F : ∀ b : Heap, K.In b → b.Ns mainGlobals mg → LamX.TabB b mg cc P0 → RunAt P w K mg b callerA fa fd [x] sp)
    (bind : ∀ (z : Shared) (u : Value), BindsTo z fd ⟨[u], []⟩ [(x, u)]) (hS : ∀ H : Hp, H P0 = some (.tbl #[]) → SqL K H a (ns.map V.int) → sp [.ref a] H (fun v _ => v = .bl true) noE) :
    codeAny (model P w) callerA (.call (.ref fa) ⟨[.ref a], []⟩) (LawEnd s) s := by
  have rv := vals_ints hi
  have aP : a ≠ P0 := fun z => by
    subst z
    exact nomatch congrArg Obj.data (Option.some.inj (hT.symm.trans ha))
  match hk : K.lookup a with
  | some o =>
    cases ha.symm.trans (KX a o hk)
    have e1 : ∀ {b : Addr}, b ≠ P0 → (fun b => if b = P0 then some (HO.tbl #[]) else none : Hp) b = none := fun n => if_neg n
    refine law_coreT KX hn hb hbb hl hg hbm ha hT nT C F bind (fun b => if b = P0 then some (.tbl #[]) else none) (if_pos rfl) (fun b n => .inl (e1 n)) (hS _ (if_pos rfl) (.inr ⟨_, ws.toArray, _, hk, rfl, rfl, rfl, by rw [List.size_toArray, hi.length]; exact hz, by simpa using rv⟩)) (fun b u z => ?_) (fun b z => ?_) fun z => absurd (e1 aP) z
    · by_cases y : b = P0
      · subst y
        cases (if_pos rfl : (if b = b then some (HO.tbl #[]) else none) = _).symm.trans z
        exact hT
      · exact nomatch (e1 y).symm.trans z
    · by_cases y : b = P0
      · exact .inr y
      · exact absurd (e1 y) z
  | none =>
    have e0 : (fun b => if b = a then some (.frz { cls := .type "list", data := .seq ws.toArray } (.lst (ns.map V.int))) else if b = P0 then some (HO.tbl #[]) else none : Hp) a = some (.frz { cls := .type "list", data := .seq ws.toArray } (.lst (ns.map V.int))) := if_pos rfl
    have e1 : (fun b => if b = a then some (.frz { cls := .type "list", data := .seq ws.toArray } (.lst (ns.map V.int))) else if b = P0 then some (HO.tbl #[]) else none : Hp) P0 = some (.tbl #[]) := (if_neg aP.symm).trans (if_pos rfl)
    have e2 : ∀ {b : Addr}, b ≠ a → b ≠ P0 → (fun b => if b = a then some (.frz { cls := .type "list", data := .seq ws.toArray } (.lst (ns.map V.int))) else if b = P0 then some (HO.tbl #[]) else none : Hp) b = none := fun n m => (if_neg n).trans (if_neg m)
    refine law_coreT KX hn hb hbb hl hg hbm ha hT nT C F bind (fun b => if b = a then some (.frz { cls := .type "list", data := .seq ws.toArray } (.lst (ns.map V.int))) else if b = P0 then some (HO.tbl #[]) else none) e1 (fun b n => ?_) (hS _ e1 (.inl (.inr ⟨_, e0⟩))) (fun b u z => ?_) (fun b z => ?_) fun _ => hk
    · by_cases y : b = a
      · subst y; exact .inr ⟨_, _, e0⟩
      · exact .inl (e2 y n)
    · by_cases y : b = a
      · subst y
        cases e0.symm.trans z
        exact ⟨ha, by rw [List.length_map]; exact hz, ws, _, rv, ha⟩
      · by_cases y2 : b = P0
        · subst y2
          cases e1.symm.trans z
          exact hT
        · exact nomatch (e2 y y2).symm.trans z
    · by_cases y : b = a
      · exact .inl y
      · by_cases y2 : b = P0
        · exact .inr y2
        · exact absurd (e2 y y2) z
end
/-- what is known of the law at the head's heap h -/
def LawG (P : Program) (w : World) (K : PySem.W.Frag) (n : Nat) (x : Str) (mg : Str → Option Value) (fa : Addr) (h : Heap) : Prop :=
  ∃ (fd : FuncData) (cc P0 : Addr) (sp : Sp), h.get? P0 = some { cls := .none, data := .fields #[] } ∧ K.lookup P0 = none ∧ PySem.W.CodeHd h cc P0 ∧ (∀ (s : Shared) (u : Value), BindsTo s fd ⟨[u], []⟩ [(x, u)]) ∧
    (∀ (H : Hp) (a : Addr) (ns : List Int), ns.length ≤ n → H P0 = some (.tbl #[]) → SqL K H a (ns.map V.int) → sp [.ref a] H (fun v _ => v = .bl true) noE) ∧
    ∀ base : Heap, K.In base → base.Ns mainGlobals mg → LamX.TabB base mg cc P0 → RunAt P w K mg base callerA fa fd [x] sp
theorem walk_tabG {l : PySem.W.OpenLaw} {n : Nat} {q : Program} {loose : List Str} {XP : (Str → Option Value) → Heap → Prop} {YP : World → Heap → Prop} {d : DefRec} {K : Params → PySem.W.Frag} {x : Str}
    (hn : l.most = some n) (hn2 : n ≤ sizeLine) (hdf : d.params.defaults = []) (hY : ∀ (w : World) (h : Heap), YP w h → (K w.params).In h)
    (F : ∀ (w : World) (mg : Str → Option Value) (fa : Addr) (h : Heap), (∃ loose2 mean mb, Top q loose2 mean mg mb h) → (K w.params).In h → h.Ns mainGlobals mg → mg d.name = some (.ref fa) → LawG l.prog w (K w.params) n x mg fa h) :
    PySem.W.WalkO q loose XP YP l.row.toRowW d [] (fun f vs => PySem.call f vs) := by
  refine Att.attach_callB hn hdf fun w s₀ s₁ mg mb fa o pm cd doc a vs ns G Y ho hd hcd hmg hobj hints hlen hbits hg => ?_
  have KX := hY w _ Y
  obtain ⟨fd, cc, P0, sp, hT, nT, C, hb, hsp, hF⟩ := F w mg fa _ ⟨_, _, _, G.T⟩ KX G.T.g hmg
  exact law_callGT KX G.T.g G.T.b G.T.builtins G.T.nolimit hg G.T.bmain hobj hints (Nat.le_trans hlen hn2) hT nT C hF hb fun H hH hS => hsp H a ns hlen hH hS
end Vf

set_option maxRecDepth 100000
set_option maxHeartbeats 4000000
namespace Vf
open PySem PySem.Spec PyProof.Rows L2 SX
theorem szS2 {n : Nat} (h : n ≤ 100) : n ≤ sizeLine := szB (by omega)
/-- a def of the module with how its arguments bind -/
def Dn (K : PySem.W.Frag) (mg : Str → Option Value) (x : Str) (st : Stmt) (ps : List Str) : Prop := ∃ (f : Addr) (fd : FuncData), C8.Def K mg x st f fd ∧ Binds K fd ps []
theorem useIt {A B : Prop} (h : A) (k : A → B) : B := k h
theorem useT {K : PySem.W.Frag} {h : Heap} {w : World} {mg : Str → Option Value} {B : Prop} (X : K.In h) (T : Tx K w mg) (k : Tx K w mg → B) : B := k T
section
variable {K : PySem.W.Frag} {h : Heap} {mg : Str → Option Value} {x : Str} {st : Stmt} {ps : List Str} {f d : Addr} {od an : Option Addr} {sl : Array (Option Value)} {oc kV dc pm cd ct : Value} {t : Tok} {w : World}
theorem dn_mk (X : K.In h) (G : h.Ns mainGlobals mg) (a : PySem.W.nsIn K mainGlobals x = some (some (.ref f)))
    (l : K.lookup f = some ⟨oc, od, .func (PySem.W.fnOf x x (C8.fnArgs st) (C8.fnBody st) (C8.fnScope st) .none kV dc pm an cd ct), sl⟩) (c : PySem.W.codeIn K cd x = true) (k : PySem.W.keepIn K (.ref f) = true)
    (hb : ∀ (kV doc pm : Value) (an : Option Addr) (cdv ct : Value) (us : List Value), us.length = ps.length → bindArgs (PySem.W.fnOf x x (C8.fnArgs st) (C8.fnBody st) (C8.fnScope st) .none kV doc pm an cdv ct) ⟨us, []⟩ = pure (ps.zip us)) : Dn K mg x st ps := by
  have F : C8.Fun K x x st f (PySem.W.fnOf x x (C8.fnArgs st) (C8.fnBody st) (C8.fnScope st) .none kV dc pm an cd ct) := ⟨oc, od, .none, kV, dc, pm, an, cd, ct, sl, rfl, l, c⟩
  exact ⟨f, _, ⟨F, PySem.W.mg_of X G a, k⟩, F.binds rfl hb⟩
theorem cst_str {n y : Str} {z : List Nat} (X : K.In h) (G : h.Ns mainGlobals mg) (a : PySem.W.nsIn K mainGlobals n = some (some (.str y t))) (e : y = S z) : ∃ u, mg n = some u ∧ RelV (.str (S z)) u :=
  ⟨_, PySem.W.mg_of X G a, ⟨t, by rw [e]⟩⟩
theorem cst_int {n : Str} {i : Int} (X : K.In h) (G : h.Ns mainGlobals mg) (a : PySem.W.nsIn K mainGlobals n = some (some (.int i t))) : ∃ u, mg n = some u ∧ RelV (.int i) u :=
  ⟨_, PySem.W.mg_of X G a, ⟨t, rfl⟩⟩
theorem cst_kd {n : Str} {es : Array DictEntry} {k : Nat} {g : Str → Option V} (X : K.In h) (G : h.Ns mainGlobals mg) (a : PySem.W.nsIn K mainGlobals n = some (some (.ref d))) (l : K.lookup d = some ⟨.type "dict", none, .dict es k, #[]⟩)
    (hk : PySem.W.KeysLit w.params es.toList) (low : (d == sysModules) = false) (hf : ∀ z, RelO (g z) (findBy Value.isStrOf es z)) : ∃ d, (∃ u, mg n = some u ∧ RelV (.ref d) u) ∧ KD K w d g :=
  ⟨d, ⟨_, PySem.W.mg_of X G a, rfl⟩, es, k, l, hk, low, hf⟩
end
/-- a class of errors -/
structure Ec (K : PySem.W.Frag) (mg : Str → Option Value) (n : Str) (C : Addr) : Prop where
  g : mg n = some (.ref C)
  o : OexC K C
  e : ExcC K C
  x : XfC K C
/-! ### the classes -/
/-- the class above all of them -/
def Wc (K : PySem.W.Frag) (W : Addr) : Prop := PySem.W.isClsIn K W = true ∧ PySem.W.typeIn K (.ref W) = some (.type "type")
/-- a class just beneath it -/
def Cb (K : PySem.W.Frag) (C W : Addr) : Prop := PySem.W.typeIn K (.ref C) = some (.type "type") ∧ ∃ cd : ClassData, PySem.W.clsIn K C = some cd ∧ cd.mro = [.ref C, .ref W, .type "ValueError", .type "Exception", .type "BaseException", .type "object"]
def Mt (K : PySem.W.Frag) : Prop := PySem.W.specialIn K (.builtin "object.__class__") "__get__" = some (some (.builtin "getset_descriptor.__get__")) ∧ PySem.W.takesIn K (.builtin "object.__class__") = some true
structure Cc (K : PySem.W.Frag) (mg : Str → Option Value) (n : Str) (C W : Addr) : Prop where
  ec : Ec K mg n C
  b : Cb K C W
structure Kc (K : PySem.W.Frag) (mg : Str → Option Value) (n : Str) (C W : Addr) (fs : List Str) (st : Stmt) : Prop where
  c : Cc K mg n C W
  no : ∀ f ∈ fs, PySem.W.findIn K (.ref C) f = some none
  ne : fs ≠ []
  i : ∃ (fI : Addr) (fd : FuncData) (q : Str), PySem.W.findIn K (.ref C) "__init__" = some (some (.ref fI)) ∧ PySem.W.typeIn K (.ref fI) = some (.type "function") ∧ C8.Fun K "__init__" q st fI fd ∧ Binds K fd (("self" : Str) :: fs) []
structure Kc0 (K : PySem.W.Frag) (mg : Str → Option Value) (n : Str) (C W : Addr) : Prop where
  c : Cc K mg n C W
  x : PySem.W.excIn K C [.type "ValueError", .type "Exception", .type "BaseException", .type "object"] "ValueError.__new__" = true
section
variable {K : PySem.W.Frag} {h : Heap} {mg : Str → Option Value} {w : World}
theorem wc_mk {n : Str} {W : Addr} (X : K.In h) (G : h.Ns mainGlobals mg) (a : PySem.W.nsIn K mainGlobals n = some (some (.ref W))) (c : PySem.W.isClsIn K W = true) (k : PySem.W.typeIn K (.ref W) = some (.type "type")) :
    mg n = some (.ref W) ∧ Wc K W := ⟨PySem.W.mg_of X G a, c, k⟩
theorem mt_mk (_ : K.In h) (n : PySem.W.specialIn K (.builtin "object.__class__") "__get__" = some (some (.builtin "getset_descriptor.__get__"))) (t : PySem.W.takesIn K (.builtin "object.__class__") = some true) : Mt K := ⟨n, t⟩
theorem cl_mk {n : Str} {C W N : Addr} {nm q : Str} {bs : List Value} {sn : List Str} {sub : List Value} {ab : Bool} {col : Option Bool} {dd : Option Addr} {k0 k1 k2 k3 k5 : Option Value} (X : K.In h) (G : h.Ns mainGlobals mg) (_w : mg "WorkshopError" = some (.ref W) ∧ Wc K W) (M : Mt K)
    (a : PySem.W.nsIn K mainGlobals n = some (some (.ref C))) (l : K.lookup C = some (excClassObj nm q C N bs [.ref W, .type "ValueError", .type "Exception", .type "BaseException", .type "object"] true sn sub ab col dd k0 k1 k2 k3 k5 "ValueError.__new__"))
    (s : PySem.W.findIn K (.ref C) "__setattr__" = some (some (.builtin "object.__setattr__"))) (b : PySem.W.subIn K (.ref C) (.type "BaseException") = some true) (y : PySem.W.typeIn K (.ref C) = some (.type "type")) (k : PySem.W.keepIn K (.ref C) = true)
    (g : PySem.W.findIn K (.ref C) "__getattribute__" = some (some (.builtin "BaseException.__getattribute__"))) (hh : PySem.W.findIn K (.ref C) "__getattr__" = some none) (d : PySem.W.hasDictIn K C = true)
    (e : PySem.W.findIn K (.ref C) "__class__" = some (some (.builtin "object.__class__"))) (m : PySem.W.mroIn K C (.type "object") = some true) : Cc K mg n C W :=
  ⟨⟨PySem.W.mg_of X G a, ⟨⟨nm, q, N, bs, _, sn, sub, ab, col, dd, k0, k1, k2, k3, k5, l, rfl⟩, s, b, y, k⟩, ⟨g, hh, b, d, e, M.1, M.2, m⟩, ⟨g, hh, b, d⟩⟩, y, _, (by unfold PySem.W.clsIn; rw [show List.lookup C K = _ from l]), rfl⟩
section
variable {n : Str} {C W fI : Addr} {q f0 f1 f2 : Str} {st : Stmt} {ps : List Str} {oc kV dc pm cd ct : Value} {od an : Option Addr} {sl : Array (Option Value)}
theorem kc_mk {fs : List Str} (c : Cc K mg n C W) (ne : fs ≠ []) (no : ∀ f ∈ fs, PySem.W.findIn K (.ref C) f = some none) (i : PySem.W.findIn K (.ref C) "__init__" = some (some (.ref fI))) (t : PySem.W.typeIn K (.ref fI) = some (.type "function"))
    (l : K.lookup fI = some ⟨oc, od, .func (PySem.W.fnOf "__init__" q (C8.fnArgs st) (C8.fnBody st) (C8.fnScope st) .none kV dc pm an cd ct), sl⟩) (cc : PySem.W.codeIn K cd q = true)
    (hb : ∀ (kV doc pm : Value) (an : Option Addr) (cdv ct : Value) (us : List Value), us.length = (("self" : Str) :: fs).length → bindArgs (PySem.W.fnOf "__init__" q (C8.fnArgs st) (C8.fnBody st) (C8.fnScope st) .none kV doc pm an cdv ct) ⟨us, []⟩ = pure (List.zip (("self" : Str) :: fs) us)) : Kc K mg n C W fs st := by
  have F : C8.Fun K "__init__" q st fI (PySem.W.fnOf "__init__" q (C8.fnArgs st) (C8.fnBody st) (C8.fnScope st) .none kV dc pm an cd ct) := ⟨oc, od, .none, kV, dc, pm, an, cd, ct, sl, rfl, l, cc⟩
  exact ⟨c, no, ne, fI, _, q, i, t, F, F.binds rfl hb⟩
theorem kc_mk1 (c : Cc K mg n C W) (n0 : PySem.W.findIn K (.ref C) f0 = some none) (i : PySem.W.findIn K (.ref C) "__init__" = some (some (.ref fI))) (t : PySem.W.typeIn K (.ref fI) = some (.type "function"))
    (l : K.lookup fI = some ⟨oc, od, .func (PySem.W.fnOf "__init__" q (C8.fnArgs st) (C8.fnBody st) (C8.fnScope st) .none kV dc pm an cd ct), sl⟩) (cc : PySem.W.codeIn K cd q = true)
    (hb : ∀ (kV doc pm : Value) (an : Option Addr) (cdv ct : Value) (us : List Value), us.length = 2 → bindArgs (PySem.W.fnOf "__init__" q (C8.fnArgs st) (C8.fnBody st) (C8.fnScope st) .none kV doc pm an cdv ct) ⟨us, []⟩ = pure (List.zip [("self" : Str), f0] us)) : Kc K mg n C W [f0] st :=
  kc_mk c (fun z => nomatch z) (fun f hf => by rw [List.mem_singleton.mp hf]; exact n0) i t l cc hb
theorem kc_mk2 (c : Cc K mg n C W) (n0 : PySem.W.findIn K (.ref C) f0 = some none) (n1 : PySem.W.findIn K (.ref C) f1 = some none) (i : PySem.W.findIn K (.ref C) "__init__" = some (some (.ref fI))) (t : PySem.W.typeIn K (.ref fI) = some (.type "function"))
    (l : K.lookup fI = some ⟨oc, od, .func (PySem.W.fnOf "__init__" q (C8.fnArgs st) (C8.fnBody st) (C8.fnScope st) .none kV dc pm an cd ct), sl⟩) (cc : PySem.W.codeIn K cd q = true)
    (hb : ∀ (kV doc pm : Value) (an : Option Addr) (cdv ct : Value) (us : List Value), us.length = 3 → bindArgs (PySem.W.fnOf "__init__" q (C8.fnArgs st) (C8.fnBody st) (C8.fnScope st) .none kV doc pm an cdv ct) ⟨us, []⟩ = pure (List.zip [("self" : Str), f0, f1] us)) : Kc K mg n C W [f0, f1] st :=
  kc_mk c (fun z => nomatch z) (fun f hf => by
    simp only [List.mem_cons, List.not_mem_nil, or_false] at hf
    rcases hf with rfl | rfl <;> assumption) i t l cc hb
theorem kc_mk3 (c : Cc K mg n C W) (n0 : PySem.W.findIn K (.ref C) f0 = some none) (n1 : PySem.W.findIn K (.ref C) f1 = some none) (n2 : PySem.W.findIn K (.ref C) f2 = some none) (i : PySem.W.findIn K (.ref C) "__init__" = some (some (.ref fI))) (t : PySem.W.typeIn K (.ref fI) = some (.type "function"))
    (l : K.lookup fI = some ⟨oc, od, .func (PySem.W.fnOf "__init__" q (C8.fnArgs st) (C8.fnBody st) (C8.fnScope st) .none kV dc pm an cd ct), sl⟩) (cc : PySem.W.codeIn K cd q = true)
    (hb : ∀ (kV doc pm : Value) (an : Option Addr) (cdv ct : Value) (us : List Value), us.length = 4 → bindArgs (PySem.W.fnOf "__init__" q (C8.fnArgs st) (C8.fnBody st) (C8.fnScope st) .none kV doc pm an cdv ct) ⟨us, []⟩ = pure (List.zip [("self" : Str), f0, f1, f2] us)) : Kc K mg n C W [f0, f1, f2] st :=
  kc_mk c (fun z => nomatch z) (fun f hf => by
    simp only [List.mem_cons, List.not_mem_nil, or_false] at hf
    rcases hf with rfl | rfl | rfl <;> assumption) i t l cc hb
theorem kc_mk0 (c : Cc K mg n C W) (x : PySem.W.excIn K C [.type "ValueError", .type "Exception", .type "BaseException", .type "object"] "ValueError.__new__" = true) : Kc0 K mg n C W := ⟨c, x⟩
theorem rk_mk {P : Program} {base : Heap} {fs : List Str} (k : Kc K mg n C W fs st)
    (ok : ∀ {f : Addr} {fd : FuncData} {q : Str}, OexC K C → (∀ f ∈ fs, PySem.W.findIn K (.ref C) f = some none) → C8.Fun K "__init__" q st f fd → FnOk P w K mg base C8.CX0 1 f fd (("self" : Str) :: fs) (sp_inx C fs)) : Rk P w K mg base n C fs := by
  obtain ⟨fI, fd, q, i, t, F, b⟩ := k.i
  exact ⟨⟨k.c.ec.g, k.c.ec.o, k.c.ec.x⟩, k.no, fI, fd, _, i, t, ok k.c.ec.o k.no F, b⟩
end
end
/-- an own class -/
structure Oc (K : PySem.W.Frag) (mg : Str → Option Value) (n : Str) (C fI : Addr) : Prop where
  g : mg n = some (.ref C)
  i : C8.InsC K C
  mI : Mk K C fI
section
variable {K : PySem.W.Frag} {h : Heap} {mg : Str → Option Value} {w : World}
theorem oc_mk {n : Str} {C fI : Addr} (X : K.In h) (G : h.Ns mainGlobals mg) (M : Mt K) (a : PySem.W.nsIn K mainGlobals n = some (some (.ref C)))
    (pg : PySem.W.plainGet K C Str.empty = true) (hd : PySem.W.hasDictIn K C = true) (po : PySem.W.plainOver K C = true) (sa : PySem.W.findIn K (.ref C) "__setattr__" = some (some (.builtin "object.__setattr__")))
    (e : PySem.W.findIn K (.ref C) "__class__" = some (some (.builtin "object.__class__"))) (m : PySem.W.mroIn K C (.type "object") = some true)
    (mk : PySem.W.makesIn K C = true) (i : PySem.W.findIn K (.ref C) "__init__" = some (some (.ref fI))) (fi : PySem.W.isFn K (.ref fI) = true) (kp : PySem.W.keepIn K (.ref C) = true) : Oc K mg n C fI where
  g := PySem.W.mg_of X G a
  i := ⟨⟨pg, hd, po, sa⟩, e, M.1, M.2, m, by unfold PySem.W.kitOne; exact if_pos (beq_self_eq_true _)⟩
  mI := ⟨mk, i, fi, kp⟩
theorem ca_mk {CR CD CG fR fD fG : Addr} (R : Oc K mg "Rule" CR fR) (D : Oc K mg "Reader" CD fD) (T : Oc K mg "Tongue" CG fG)
    (r1 : PySem.W.findIn K (.ref CR) "kind" = some none) (r2 : PySem.W.findIn K (.ref CR) "opener" = some none) (r3 : PySem.W.findIn K (.ref CR) "closer" = some none) (r4 : PySem.W.findIn K (.ref CR) "nested" = some none)
    (r5 : PySem.W.findIn K (.ref CR) "escape" = some none) (r6 : PySem.W.findIn K (.ref CR) "doubled" = some none) (r7 : PySem.W.findIn K (.ref CR) "line" = some none)
    (d1 : PySem.W.findIn K (.ref CD) "parts" = some none) (d2 : PySem.W.findIn K (.ref CD) "_marks" = some none)
    (g1 : PySem.W.findIn K (.ref CG) "text" = some none) (g2 : PySem.W.findIn K (.ref CG) "rules" = some none) (g3 : PySem.W.findIn K (.ref CG) "weight" = some none) (g4 : PySem.W.findIn K (.ref CG) "reader" = some none) : Ca K CR CD CG :=
  ⟨R.i, D.i, T.i, r1, r2, r3, r4, r5, r6, r7, d1, d2, g1, g2, g3, g4⟩
theorem eqc_mk {n : Str} {C fI fE N : Addr} {nm q : Str} {bs : List Value} {hdct : Bool} {sn : List Str} {sub : List Value} {ab : Bool} {col : Option Bool} {dd : Option Addr} {k0 k1 k2 k3 k5 : Option Value} {newId : String} (_ : Oc K mg n C fI)
    (l : K.lookup C = some (excClassObj nm q C N bs [.type "object"] hdct sn sub ab col dd k0 k1 k2 k3 k5 newId)) (no : PySem.W.nsOkIn K N = true) (e1 : PySem.W.nsIn K N "__eq__" = some (some (.ref fE))) (e2 : PySem.W.nsIn K N "__ne__" = some none) (e3 : PySem.W.findIn K (.ref C) "__eq__" = some (some (.ref fE))) (fe : PySem.W.isFn K (.ref fE) = true) : OwnC K C fE :=
  ⟨⟨nm, q, N, bs, hdct, sn, sub, ab, col, dd, k0, k1, k2, k3, k5, newId, l, no, e1, e2⟩, e3, fe⟩
theorem cm_mk {CM fM : Addr} (Q : Oc K mg "ReadingMachine" CM fM) (q1 : PySem.W.findIn K (.ref CM) "tongue" = some none) (q2 : PySem.W.findIn K (.ref CM) "beginning" = some none) : Cm K CM := ⟨Q.i, q1, q2⟩
theorem mth_mk {n m : Str} {C fI f : Addr} (_ : Oc K mg n C fI) (a : PySem.W.findIn K (.ref C) m = some (some (.ref f))) (b : PySem.W.isFn K (.ref f) = true) (c : PySem.W.keepIn K (.ref f) = true) : Meth K C m f := ⟨a, b, c⟩
/-- what is known of the kinds of the errors -/
structure Xk (K : PySem.W.Frag) (CT CW : Addr) : Prop where
  ex : PySem.W.exmOne K (.ref CT) (.ref CT) = some true
  tw : PySem.W.kitOne K (.ref CT) (.ref CW) = some true
  tv : PySem.W.kitOne K (.ref CT) (.type "ValueError") = some true
theorem xk_mk {CT CW : Addr} (_ : Cc K mg "BadText" CT CW) (ex : PySem.W.exmOne K (.ref CT) (.ref CT) = some true) (tw : PySem.W.kitOne K (.ref CT) (.ref CW) = some true) (tv : PySem.W.kitOne K (.ref CT) (.type "ValueError") = some true) : Xk K CT CW := ⟨ex, tw, tv⟩
theorem cst_opt {n : Str} {d : Addr} {xs : List V} {its : Array Value} {sl : Array (Option Value)} {k : Nat} (X : K.In h) (G : h.Ns mainGlobals mg) (a : PySem.W.nsIn K mainGlobals n = some (some (.ref d))) (l : K.lookup d = some ⟨.type "tuple", none, .seq its k, sl⟩) (v : Vals xs its.toList) (z : its.size ≤ 100) :
    ∃ d, (∃ u, mg n = some u ∧ RelV (.ref d) u) ∧ (∀ H : Hp, SqT K H d xs) ∧ ∃ o, K.lookup d = some o ∧ o.cls = .type "tuple" ∧ o.dict = none := ⟨d, ⟨_, PySem.W.mg_of X G a, rfl⟩, fun _ => .inr ⟨_, its, k, l, rfl, rfl, szS2 z, v⟩, _, l, rfl, rfl⟩
theorem fn_mk {m q : Str} {st : Stmt} {ps : List Str} {f : Addr} {od an : Option Addr} {sl : Array (Option Value)} {oc kV dc pm cd ct : Value}
    (l : K.lookup f = some ⟨oc, od, .func (PySem.W.fnOf m q (C8.fnArgs st) (C8.fnBody st) (C8.fnScope st) .none kV dc pm an cd ct), sl⟩) (c : PySem.W.codeIn K cd q = true)
    (hb : ∀ (kV doc pm : Value) (an : Option Addr) (cdv ct : Value) (us : List Value), us.length = ps.length → bindArgs (PySem.W.fnOf m q (C8.fnArgs st) (C8.fnBody st) (C8.fnScope st) .none kV doc pm an cdv ct) ⟨us, []⟩ = pure (ps.zip us)) : ∃ (q : Str) (fd : FuncData), C8.Fun K m q st f fd ∧ Binds K fd ps [] := by
  have F : C8.Fun K m q st f (PySem.W.fnOf m q (C8.fnArgs st) (C8.fnBody st) (C8.fnScope st) .none kV dc pm an cd ct) := ⟨oc, od, .none, kV, dc, pm, an, cd, ct, sl, rfl, l, c⟩
  exact ⟨q, _, F, F.binds rfl hb⟩
theorem fnm_mk {m q : Str} {st : Stmt} {ps : List Str} {C f : Addr} {od an : Option Addr} {sl : Array (Option Value)} {oc kV dc pm cd ct : Value} (_ : PySem.W.findIn K (.ref C) m = some (some (.ref f)))
    (l : K.lookup f = some ⟨oc, od, .func (PySem.W.fnOf m q (C8.fnArgs st) (C8.fnBody st) (C8.fnScope st) .none kV dc pm an cd ct), sl⟩) (c : PySem.W.codeIn K cd q = true)
    (hb : ∀ (kV doc pm : Value) (an : Option Addr) (cdv ct : Value) (us : List Value), us.length = ps.length → bindArgs (PySem.W.fnOf m q (C8.fnArgs st) (C8.fnBody st) (C8.fnScope st) .none kV doc pm an cdv ct) ⟨us, []⟩ = pure (ps.zip us)) : ∃ (q : Str) (fd : FuncData), C8.Fun K m q st f fd ∧ Binds K fd ps [] := fn_mk l c hb
theorem cst_tup {n : Str} {d : Addr} {xs : List V} {its : Array Value} {od : Option Addr} {sl : Array (Option Value)} {k : Nat} (X : K.In h) (G : h.Ns mainGlobals mg) (a : PySem.W.nsIn K mainGlobals n = some (some (.ref d))) (l : K.lookup d = some ⟨.type "tuple", od, .seq its k, sl⟩) (v : Vals xs its.toList) (z : its.size ≤ 100) :
    ∃ d, (∃ u, mg n = some u ∧ RelV (.ref d) u) ∧ ∀ H : Hp, SqT K H d xs := ⟨d, ⟨_, PySem.W.mg_of X G a, rfl⟩, fun _ => .inr ⟨_, its, k, l, rfl, rfl, szS2 z, v⟩⟩
theorem fc_mk {x : Str} {st : Stmt} {ps : List Str} {f cc : Addr} {od an : Option Addr} {sl : Array (Option Value)} {oc kV dc pm ct : Value} (X : K.In h) (G : h.Ns mainGlobals mg) (a : PySem.W.nsIn K mainGlobals x = some (some (.ref f)))
    (l : K.lookup f = some ⟨oc, od, .func (PySem.W.fnOf x x (C8.fnArgs st) (C8.fnBody st) (C8.fnScope st) .none kV dc pm an (.ref cc) ct), sl⟩) (c : PySem.W.codeIn K (.ref cc) x = true) (k : PySem.W.keepIn K (.ref f) = true)
    (hb : ∀ (kV doc pm : Value) (an : Option Addr) (cdv ct : Value) (us : List Value), us.length = ps.length → bindArgs (PySem.W.fnOf x x (C8.fnArgs st) (C8.fnBody st) (C8.fnScope st) .none kV doc pm an cdv ct) ⟨us, []⟩ = pure (ps.zip us)) : ∃ (f : Addr) (fd : FuncData), FunC K mg x st f fd cc ∧ Binds K fd ps [] := by
  have F : C8.Fun K x x st f (PySem.W.fnOf x x (C8.fnArgs st) (C8.fnBody st) (C8.fnScope st) .none kV dc pm an (.ref cc) ct) := ⟨oc, od, .none, kV, dc, pm, an, _, ct, sl, rfl, l, c⟩
  exact ⟨f, _, ⟨⟨oc, od, .none, kV, dc, pm, an, ct, sl, rfl, l, c⟩, PySem.W.mg_of X G a, k⟩, F.binds rfl hb⟩
theorem tab_mk {x : Str} {f cc P0 : Addr} {fd : FuncData} {oc oc' : Value} {od od' : Option Addr} {sl sl' : Array (Option Value)} {vs : Array Value} (_ : K.In h) (a : PySem.W.nsIn K mainGlobals x = some (some (.ref f))) (l : K.lookup f = some ⟨oc, od, .func fd, sl⟩) (hc : fd.code = .ref cc)
    (l2 : K.lookup cc = some ⟨oc', od', .fields vs, sl'⟩) (hv : (vs[11]? : Option Value) = some (.ref P0)) : PySem.W.tabIn K x = some (cc, P0) := by
  unfold PySem.W.tabIn
  rw [a]
  dsimp only
  rw [l]
  dsimp only
  rw [hc]
  dsimp only
  rw [l2]
  dsimp only
  rw [hv]
theorem law_end13 {P : Program} {fa f cc P0 : Addr} {od an : Option Addr} {sl : Array (Option Value)} {oc kV dc pm cd ct : Value} (X : K.In h) (G : h.Ns mainGlobals mg) (hfa : mg "law" = some (.ref fa)) (tb : PySem.W.CodeHd h cc P0 ∧ h.get? P0 = some (PySem.W.tabObj #[])) (nP : K.lookup P0 = none)
    (a : PySem.W.nsIn K mainGlobals "law" = some (some (.ref f))) (lk : K.lookup f = some ⟨oc, od, .func (PySem.W.fnOf "law" "law" (C8.fnArgs s_law) (C8.fnBody s_law) (C8.fnScope s_law) .none kV dc pm an cd ct), sl⟩) (c : PySem.W.codeIn K cd "law" = true) (k : PySem.W.keepIn K (.ref f) = true)
    (ok : ∀ (base : Heap) (fd : FuncData), LamX.TabB base mg cc P0 → C8.Def K mg "law" s_law f fd → RunAt P w K mg base callerA f fd ["_law_script"] (sp_law K P0)) : LawG P w K 63 "_law_script" mg fa h := by
  have e := hfa.symm.trans (PySem.W.mg_of X G a)
  cases e
  exact ⟨_, cc, P0, sp_law K P0, tb.2, nP, tb.1, fun s v => .of_eq rfl, fun H a ns hl hH hS => ⟨a, ns, rfl, hS, hl, hH, fun _ => rfl⟩, fun base _ _ hT => ok base _ hT ⟨⟨oc, od, .none, kV, dc, pm, an, cd, ct, sl, rfl, lk, c⟩, PySem.W.mg_of X G a, k⟩⟩
end

end Vf

set_option maxRecDepth 100000
set_option maxHeartbeats 4000000
namespace Vf
open PySem PySem.Spec PyProof.Rows L2 SX
section
variable {P : Program} {w : World} {K : PySem.W.Frag} {mg : Str → Option Value} {base : Heap}
theorem ok_canStand {f : Addr} {fd : FuncData} (F : C8.Def K mg "can_stand" s_canStand f fd) (b : Binds K fd ["ahead", "word", "openers"] []) (T : Tx K w mg) (C_isMark : C8.Cal P w K mg base 1 "is_mark" sp_isMark []) (C_optionCanStand : C8.Cal P w K mg base 1 "option_can_stand" (sp_optionCanStand K) []) : C8.Cal P w K mg base 2 "can_stand" (sp_canStand K) [] := by
  refine C8.cal0 F b .nil sc_canStand (fun vs H Q E h => ?_) (fun cdv A outer s H vs Q E hr h => ?_)
  · obtain ⟨a, o, ws, os, w, rfl, _⟩ := h; rfl
  have hu := hu_of hr
  refine ⟨_, (pss_cons (ps_if (pt_not (pt_truth (pv 0) (by intro _; rfl)))
      (pss_one (ps_ret (pe_cmpR op_in_seq (pv 1) (C8.pe_gc rfl (Classical.choose_spec T.g_KINDS).1) rfl)))
      pss_nil)
      (pss_cons (ps_if (pt_cmpR op_eq (pe_callB call_len (by rfl) T.z_len PySem.boot_len (pa_cons (pv 0) pa_nil)) pe_int (nomark _))
      (pss_one (ps_ret (pe_and (C8.pe_c C_isMark hr (by decide) rfl (pa_cons (pv 1) pa_nil)) (pe_one (pe_cmpR op_notIn_seq (pv 1) (pv 2) rfl)))))
      pss_nil)
      (pss_cons (ps_if (pt_cmpR op_eq (pe_callB call_len (by rfl) T.z_len PySem.boot_len (pa_cons (pv 0) pa_nil)) pe_int (nomark _))
      (pss_one (ps_ret (pe_cmpR op_eq (pv 1) pe_str (nomark _))))
      pss_nil)
      (pss_cons (ps_if (pt_cmpR op_eq (pe_callB call_len (by rfl) T.z_len PySem.boot_len (pa_cons (pv 0) pa_nil)) pe_int (nomark _))
      (pss_one (ps_ret (pe_or (pe_cmpR op_eq (pv 1) pe_str (nomark _)) (pe_one (C8.pe_c C_isMark hr (by decide) rfl (pa_cons (pv 1) pa_nil))))))
      pss_nil)
      (pss_cons (ps_if (pt_cmpR op_eq (pe_ix ix_list (pv 0) (pe_un un_neg pe_int) (fun _ _ => rfl)) pe_str (nomark _))
      (pss_one (ps_ret (pe_cmpR op_in_seq (pv 1) (C8.pe_gc rfl (Classical.choose_spec T.g_DEPTHS).1) rfl)))
      pss_nil)
      (pss_cons (ps_if (pt_cmpR op_eq (pe_ix ix_list (pv 0) (pe_un un_neg pe_int) (fun _ _ => rfl)) pe_str (nomark _))
      (pss_one (ps_ret (pe_and (C8.pe_c C_isMark hr (by decide) rfl (pa_cons (pv 1) pa_nil)) (pe_one (pe_cmpR op_eq (pe_callB call_len (by rfl) T.z_len PySem.boot_len (pa_cons (pv 1) pa_nil)) pe_int (nomark _))))))
      pss_nil)
      (pss_one (ps_ret (C8.pe_c C_optionCanStand hr (by decide) rfl (pa_cons (pv 0) (pa_cons (pv 1) pa_nil))))))))))), ?_⟩

  obtain ⟨a, o, ws, os, w, rfl, ha, ho, vd, hz, hw, q⟩ := h
  have q0 := q H (same_refl H)
  have hl : ws.length = (ws.map V.str).length := (List.length_map ..).symm
  refine ⟨_, rfl, _, truL ha, ?_⟩
  by_cases c0 : ws.length = 0
  · have e : ws = [] := List.length_eq_zero_iff.mp c0
    subst e
    refine ify rfl ?_
    refine ⟨_, rfl, _, _, rfl, .inr ((Classical.choose_spec T.g_KINDS).2 H), rfl, rfl, ?_⟩
    rw [if_neg Bool.false_ne_true, show ([V.str "remark", V.str "quote"] : List V) = (["remark", "quote"] : List Str).map V.str from rfl, inV_strs]
    exact q0
  have cb : canB ws w os = if ws.length = 1 then isMk w && !(decide (w ∈ os)) else if ws.length = 2 then decide (w = "to") else if ws.length = 3 then decide (w = "line") || isMk w else optB ws w := by
    unfold canB; rw [if_neg c0]
  rw [cb] at q0
  refine ifn (by cases ws with | nil => exact absurd rfl c0 | cons x r => rfl) ?_
  refine ⟨_, rfl, _, ws.length, rfl, .inl ⟨_, ha, hl⟩, rfl, _, rfl, ?_⟩
  rw [show V.int 1 = V.int ((1 : Nat) : Int) from rfl, dN]
  by_cases c1 : ws.length = 1
  · rw [if_pos c1] at q0
    refine ify (decide_eq_true c1) ⟨_, rfl, w, rfl, hw, fun H1 s1 => ⟨_, rfl, ?_⟩⟩
    have q1 := q H1 s1
    rw [cb, if_pos c1] at q1
    cases cm : isMk w with
    | false => rw [cm, Bool.false_and] at q1; exact ifF q1
    | true =>
      rw [cm, Bool.true_and] at q1
      refine ifT ⟨_, rfl, _, rfl, o, _, rfl, .inl (sqL_same s1 ho), rfl, flat_strs _, ?_⟩
      rw [if_pos rfl, inV_strs]
      exact q1
  rw [if_neg c1] at q0
  refine ifn (decide_eq_false c1) ⟨_, rfl, _, ws.length, rfl, .inl ⟨_, ha, hl⟩, rfl, _, rfl, ?_⟩
  rw [show V.int 2 = V.int ((2 : Nat) : Int) from rfl, dN]
  by_cases c2 : ws.length = 2
  · rw [if_pos c2] at q0
    refine ify (decide_eq_true c2) ⟨_, rfl, rfl, ?_⟩
    rw [dS]
    exact q0
  rw [if_neg c2] at q0
  refine ifn (decide_eq_false c2) ⟨_, rfl, _, ws.length, rfl, .inl ⟨_, ha, hl⟩, rfl, _, rfl, ?_⟩
  rw [show V.int 3 = V.int ((3 : Nat) : Int) from rfl, dN]
  by_cases c3 : ws.length = 3
  · rw [if_pos c3] at q0
    refine ify (decide_eq_true c3) ⟨_, rfl, rfl, _, rfl, ?_⟩
    rw [dS]
    by_cases c4 : w = "line"
    · rw [decide_eq_true c4, Bool.true_or] at q0
      exact ify (decide_eq_true c4) q0
    · refine ifn (decide_eq_false c4) ⟨_, rfl, w, rfl, hw, fun H1 s1 => ?_⟩
      have q1 := q H1 s1
      rw [cb, if_neg c1, if_neg c2, if_pos c3, decide_eq_false c4, Bool.false_or] at q1
      exact q1
  rw [if_neg c3] at q0
  have h4 : 4 ≤ ws.length := by omega
  have cbo : canB ws w os = optB ws w := by rw [cb, if_neg c1, if_neg c2, if_neg c3]
  obtain ⟨u, gl, lst⟩ := at_lastS (ws := ws) (by intro z; exact c0 (by rw [z]; rfl))
  refine ifn (decide_eq_false c3) ⟨_, rfl, _, rfl, a, _, _, _, rfl, rfl, ha, lst, rfl, _, rfl, ?_⟩
  rw [dS]
  have l1 := vd_last vd h4 (.inl rfl)
  have l2 := vd_last vd h4 (.inr rfl)
  rw [gl] at l1 l2
  by_cases c4 : u = "nested"
  · refine ify (decide_eq_true c4) ?_
    refine ⟨_, rfl, _, _, rfl, .inr ((Classical.choose_spec T.g_DEPTHS).2 H), rfl, rfl, ?_⟩
    rw [if_neg Bool.false_ne_true, show ([V.str "2", V.str "3", V.str "4"] : List V) = (["2", "3", "4"] : List Str).map V.str from rfl, inV_strs]
    unfold optB at q0
    rw [if_pos (l1.mp (by rw [c4]))] at q0
    exact q0
  have n1 : (ws.drop 4).getLast? ≠ some ("nested" : Str) := fun z => c4 (Option.some.inj (l1.mpr z))
  refine ifn (decide_eq_false c4) ⟨_, rfl, _, rfl, a, _, _, _, rfl, rfl, ha, lst, rfl, _, rfl, ?_⟩
  rw [dS]
  by_cases c5 : u = "escape"
  · refine ify (decide_eq_true c5) ⟨_, rfl, w, rfl, hw, fun H1 s1 => ⟨_, rfl, ?_⟩⟩
    have q1 := q H1 s1
    rw [cbo] at q1
    unfold optB at q1
    rw [if_neg n1, if_pos (l2.mp (by rw [c5])), Bool.and_comm] at q1
    cases cm : isMk w with
    | false => rw [cm, Bool.false_and] at q1; exact ifF q1
    | true =>
      rw [cm, Bool.true_and] at q1
      refine ifT ⟨_, rfl, _, w.length, rfl, ⟨szB (by omega), rfl⟩, rfl, ?_⟩
      rw [dN]
      exact q1
  have n2 : (ws.drop 4).getLast? ≠ some ("escape" : Str) := fun z => c5 (Option.some.inj (l2.mpr z))
  refine ifn (decide_eq_false c5) ⟨_, rfl, _, rfl, a, ws, w, rfl, ha, h4, hz, vd_first vd, n1, n2, hw, fun H1 s1 => ?_⟩
  have q1 := q H1 s1
  rw [cbo] at q1
  exact q1

end
end Vf

set_option maxRecDepth 100000
set_option maxHeartbeats 4000000
namespace Vf
open PySem PySem.Spec PyProof.Rows L2 SX
section
variable {P : Program} {w : World} {K : PySem.W.Frag} {mg : Str → Option Value} {base : Heap}
theorem ok_draw {f : Addr} {fd : FuncData} (F : C8.Def K mg "_law_draw" s_draw f fd) (b : Binds K fd ["_law_pen_here", "_law_many"] []) (T : Tx K w mg)  : C8.Cal P w K mg base 1 "_law_draw" sp_draw [] := by
  refine C8.cal0 F b .nil sc_draw (fun vs H Q E h => ?_) (fun cdv A outer s H vs Q E hr h => ?_)
  · obtain ⟨p, c, m, n, rfl, _⟩ := h; rfl
  have hu := hu_of hr
  refine ⟨_, (pss_cons (ps_dput hu (pv 0) pe_str (pe_op op_add (pe_dget hu (pv 0) pe_str (fun _ _ => rfl)) pe_int) rfl)
      (C8.pss_cut (ps_if (PW.pt (pw_and (pt_cmpR op_eq (pe_dget hu (pv 0) pe_str (fun _ _ => rfl)) pe_int (nomark _)) (pw_and1 (pt_cmpR op_lt (pe_dget hu (pv 0) pe_str (fun _ _ => rfl)) (pe_callB call_len (by rfl) T.z_len PySem.boot_len (pa_cons (pe_dget hu (pv 0) pe_str (fun _ _ => rfl)) pa_nil)) (nomark _)))))
      (pss_cons (ps_set (i := 2) sc_draw.nd rfl (Or.inl rfl) (pe_ix ix_list (pe_dget hu (pv 0) pe_str (fun _ _ => rfl)) (pe_dget hu (pv 0) pe_str (fun _ _ => rfl)) (fun _ _ => rfl)))
      (pss_cons (ps_dput hu (pv 0) pe_str (pe_op op_add (pe_dget hu (pv 0) pe_str (fun _ _ => rfl)) pe_int) rfl)
      (pss_one (ps_if (pt_cmpR op_ge (pv 2) (pe_op op_pow pe_int pe_int) (nomark _))
      (pss_one (ps_dput hu (pv 0) pe_str (pe_op op_sub (pv 2) (pe_op op_pow pe_int pe_int)) rfl))
      (pss_one (ps_dput hu (pv 0) pe_str (pe_op op_mod (pe_callTy call_int1 (by rfl) T.z_int (by decide +kernel) (pa_cons (pe_op op_add (pe_op op_mul (pe_dget hu (pv 0) pe_str (fun _ _ => rfl)) pe_int) (pv 2)) pa_nil)) pe_int) rfl))))))
      pss_nil)
      (pss_cons (ps_if (pt_cmpR op_gt (pe_dget hu (pv 0) pe_str (fun _ _ => rfl)) pe_int (nomark _))
      (pss_cons (ps_set (i := 3) sc_draw.nd rfl (Or.inl rfl) (pe_op op_mod (pe_callTy call_int1 (by rfl) T.z_int (by decide +kernel) (pa_cons (pe_dget hu (pv 0) pe_str (fun _ _ => rfl)) pa_nil)) (pv 1)))
      (pss_cons (ps_dput hu (pv 0) pe_str (pe_op op_fdiv (pe_dget hu (pv 0) pe_str (fun _ _ => rfl)) (pv 1)) rfl)
      (pss_one (ps_ret (pv 3)))))
      pss_nil)
      (pss_cons (ps_set (i := 4) sc_draw.nd rfl (Or.inl rfl) (pe_op op_add (pe_op op_add (pe_dget hu (pv 0) pe_str (fun _ _ => rfl)) (pe_op op_mul (pe_dget hu (pv 0) pe_str (fun _ _ => rfl)) pe_int)) pe_int))
      (pss_one (ps_ret (pe_op op_mod (pe_op op_fdiv (pe_callTy call_int1 (by rfl) T.z_int (by decide +kernel) (pa_cons (pe_op op_mod (pe_op op_pow (pv 4) pe_int) pe_int) pa_nil)) pe_int) (pv 1)))))))), ?_⟩

  obtain ⟨p, c, m, n, rfl, ⟨ns, a, d, t, fo, hp, hc, hl, ha, hd, ht, htm, hf0, hf1⟩, hm, hn1, hn2, q⟩ := h
  have hpc : c ≠ p := ne_of hc hp (by intro z; cases z)
  have nx : ∀ o, (upd H p o) c = some (.lst (ns.map V.int)) := fun o => by rw [upd_ne hpc]; exact hc
  have lns : (ns.map V.int).length = ns.length := List.length_map _
  -- count
  refine ⟨_, rfl, p, _, rfl, pg_count hp, _, _, rfl, rfl, _, rfl, p, _, rfl, pp_count hp, ?_⟩
  have h1 : (upd H p (.dK (pk c a d (t + 1) fo))) p = some (.dK (pk c a d (t + 1) fo)) := upd_same
  -- the cell
  refine ⟨fun σ' H' => ∃ (v2 : Option V) (a' d' f' : Int), σ' = [some (.ref p), some (.int (n : Int)), v2, none, none] ∧ H' = upd H p (.dK (pk c a' d' (t + 1) f')) ∧ 0 ≤ a' ∧ 0 ≤ d' ∧ 0 ≤ f' ∧ f' < 2147483648, ?_, ?_⟩
  · refine ⟨_, rfl, p, _, rfl, pg_digits h1, rfl, _, rfl, ?_⟩
    refine ite2 (fun e0 => ?_) (fun _ => ?_)
    · refine ⟨_, rfl, p, _, rfl, pg_at h1, _, rfl, p, _, rfl, pg_cells h1, _, _, rfl, .inl ⟨_, SqL.of (nx _), rfl⟩, _, _, rfl, rfl, _, rfl, ?_⟩
      refine ite2 (fun e1 => ?_) (fun _ => ?_)
      · have e1' : a < (((ns.map V.int).length : Nat) : Int) := of_decide_eq_true e1
        rw [lns] at e1'
        have hk : a.toNat < ns.length := by omega
        have ek : a = ((a.toNat : Nat) : Int) := by omega
        have g : (ns.map V.int)[a.toNat]? = some (.int ns[a.toNat]) := by
          rw [List.getElem?_map, List.getElem?_eq_getElem hk]; rfl
        refine ⟨_, rfl, p, _, rfl, pg_cells h1, _, rfl, p, _, rfl, pg_at h1, c, _, a, _, rfl, rfl, SqL.of (nx _), at_of ek g, ?_⟩
        refine ⟨_, rfl, p, _, rfl, pg_at h1, _, _, rfl, rfl, _, rfl, p, _, rfl, pp_at h1, ?_⟩
        rw [upd_upd]
        have h2 : (upd H p (.dK (pk c (a + 1) d (t + 1) fo))) p = some (.dK (pk c (a + 1) d (t + 1) fo)) := upd_same
        refine ⟨_, rfl, _, _, rfl, rfl, ⟨by decide, by decide, by decide⟩, _, _, rfl, rfl, _, rfl, ?_⟩
        refine ite2 (fun e2 => ?_) (fun _ => ?_)
        · have e2' : (10 : Int) ^ (18 : Int).toNat ≤ ns[a.toNat] := of_decide_eq_true e2
          refine ⟨_, rfl, _, _, rfl, rfl, ⟨by decide, by decide, by decide⟩, _, _, rfl, rfl, _, rfl, p, _, rfl, pp_digits h2, ?_⟩
          rw [upd_upd]
          exact ⟨_, _, _, _, rfl, rfl, by omega, by omega, hf0, hf1⟩
        · refine ⟨_, rfl, p, _, rfl, pg_fold h2, _, _, rfl, rfl, .inl ⟨by omega, by omega⟩, _, rfl, _, _, rfl, rfl, .inl ⟨_, rfl, _, _, rfl, rfl, (by decide : (0 : Int) < 2147483587), _, rfl, p, _, rfl, pp_fold h2, ?_⟩⟩
          rw [upd_upd]
          exact ⟨_, _, _, _, rfl, rfl, by omega, hd, Int.emod_nonneg _ (by decide), Int.lt_trans (Int.emod_lt_of_pos _ (by decide)) (by decide)⟩
      · exact ⟨_, _, _, _, rfl, rfl, ha, hd, hf0, hf1⟩
    · exact ⟨_, _, _, _, rfl, rfl, ha, hd, hf0, hf1⟩
  · rintro σ' H' ⟨v2, a', d', f', rfl, rfl, ha', hd', hf', hf2⟩
    have h2 : (upd H p (.dK (pk c a' d' (t + 1) f'))) p = some (.dK (pk c a' d' (t + 1) f')) := upd_same
    have fin : ∀ (d2 : Int) (r : Nat), 0 ≤ d2 → r < n → Q (.int (r : Int)) (upd H p (.dK (pk c a' d2 (t + 1) f'))) := fun d2 r h0 hr' =>
      q _ r (Ks.dict hp) ⟨ns, _, _, _, _, upd_same, nx _, hl, ha', h0, by omega, by omega, hf', hf2⟩ hr'
    refine ⟨_, rfl, p, _, rfl, pg_digits h2, _, _, rfl, rfl, _, rfl, ?_⟩
    refine ite2 (fun e0 => ?_) (fun _ => ?_)
    · refine ⟨_, rfl, p, _, rfl, pg_digits h2, .inl ⟨_, rfl, _, rfl, _, _, rfl, rfl, (by omega : (0 : Int) < (n : Int)), ?_⟩⟩
      refine ⟨_, rfl, p, _, rfl, pg_digits h2, _, rfl, _, _, rfl, rfl, ⟨by omega, by omega⟩, _, rfl, p, _, rfl, pp_digits h2, ?_⟩
      rw [upd_upd]
      refine ⟨_, rfl, ?_⟩
      have e1 : d' % (n : Int) = (((d' % (n : Int)).toNat : Nat) : Int) := by
        have := Int.emod_nonneg d' (show (n : Int) ≠ 0 by omega)
        omega
      have e2 : (d' % (n : Int)).toNat < n := by
        have := Int.emod_lt_of_pos d' (show (0 : Int) < n by omega)
        have := Int.emod_nonneg d' (show (n : Int) ≠ 0 by omega)
        omega
      show Q (.int (d' % (n : Int))) _
      rw [e1]
      exact fin _ _ (Int.ediv_nonneg hd' (by omega)) e2
    · refine ⟨_, rfl, p, _, rfl, pg_fold h2, _, rfl, p, _, rfl, pg_count h2, _, _, rfl, rfl, .inr ⟨by decide, by decide⟩, _, _, rfl, rfl, _, _, rfl, rfl, ?_⟩
      refine ⟨_, rfl, _, _, rfl, rfl, ⟨by decide, by decide, ?_⟩, _, _, rfl, rfl, (by decide : (0 : Int) < 2305843009213693951), .inl ⟨_, rfl, _, _, rfl, rfl, ⟨by decide, by decide⟩, _, rfl, _, _, rfl, rfl, (by omega : (0 : Int) < (n : Int)), ?_⟩⟩
      · show (f' + (t + 1) * 7907 + 37).natAbs < 2 ^ 64
        have : (2 : Nat) ^ 64 = 18446744073709551616 := by decide
        omega
      generalize (f' + (t + 1) * 7907 + 37) ^ (17 : Int).toNat % 2305843009213693951 / 128 = z
      have e1 : z % (n : Int) = (((z % (n : Int)).toNat : Nat) : Int) := by
        have := Int.emod_nonneg z (show (n : Int) ≠ 0 by omega)
        omega
      have e2 : (z % (n : Int)).toNat < n := by
        have := Int.emod_lt_of_pos z (show (0 : Int) < n by omega)
        have := Int.emod_nonneg z (show (n : Int) ≠ 0 by omega)
        omega
      show Q (.int (z % (n : Int))) _
      rw [e1]
      exact fin _ _ hd' e2

end
end Vf

set_option maxRecDepth 100000
set_option maxHeartbeats 4000000
namespace Vf
open PySem PySem.Spec PyProof.Rows L2 SX
section
variable {P : Program} {w : World} {K : PySem.W.Frag} {mg : Str → Option Value} {base : Heap}
theorem ok_isMark {f : Addr} {fd : FuncData} (F : C8.Def K mg "is_mark" s_isMark f fd) (b : Binds K fd ["word"] []) (T : Tx K w mg)  : C8.Cal P w K mg base 1 "is_mark" sp_isMark [] := by
  refine C8.cal0 F b .nil sc_isMark (fun vs H Q E h => ?_) (fun cdv A outer s H vs Q E hr h => ?_)
  · obtain ⟨w, rfl, _⟩ := h; rfl
  have hu := hu_of hr
  refine ⟨_, (pss_one (ps_ret (pe_and (pe_chain op_le op_le pe_int (pe_callB call_len (by rfl) T.z_len PySem.boot_len (pa_cons (pv 0) pa_nil)) (C8.pe_gc rfl T.g_LONGEST_MARK)) (pe_one (pe_callB (cr_all rfl) (by rfl) T.z_all (by decide +kernel) (pa_cons (pe_lc (own := [("sign", 1)]) (g := (gName 1)) (tt := tYes) rfl sc_isMark.nd (pi_str (pv 0)) (blkOk_by (N := N_isMark) (sc := C8.fnScope s_isMark) (by decide +kernel)) (fun _ _ _ _ _ => pg_name (i := 1) sc_isMark.nd rfl (Or.inl rfl)) (fun _ _ _ _ _ => pts_nil) (fun _ _ _ _ _ => (pe_cmpR op_in_sign (pv 1) (C8.pe_gc rfl T.g_MARK_SIGNS) rfl))) pa_nil)))))), ?_⟩

  obtain ⟨w, rfl, hw, q⟩ := h
  have q0 := q H (fun _ _ z => z)
  refine ⟨_, rfl, _, w.length, rfl, ⟨szB (by omega), rfl⟩, _, _, rfl, rfl, _, rfl, ?_⟩
  have e1 : decide ((1 : Int) ≤ (w.length : Int)) = decide (1 ≤ w.length) := decide_eq_decide.mpr (by omega)
  rw [e1]
  have no : (decide (1 ≤ w.length) && decide (w.length ≤ 4)) = false → isMk w = false := fun z => by rw [isMk_lt, z, Bool.false_and]
  by_cases c1 : 1 ≤ w.length
  · refine ify (decide_eq_true c1) ⟨_, _, rfl, rfl, _, rfl, ?_⟩
    have e2 : decide ((w.length : Int) ≤ (4 : Int)) = decide (w.length ≤ 4) := decide_eq_decide.mpr (by omega)
    rw [e2]
    by_cases c2 : w.length ≤ 4
    · refine ify (decide_eq_true c2) ⟨_, rfl, _, rfl, fun D hD => ?_⟩
      have hz : w.cps.size = w.length := rfl
      refine lc_it (walk_str (z := w)) (fun i H' => H' = upd H D (.lst (((TL.tl w).take i).map fun c => V.bl (decide (c ∈ mkL))))) rfl (fun _ _ _ _ => trivial) (fun i x H1 H2 hi e y => ?_) (fun H1 e => ?_)
      · obtain ⟨eH, c, hc, rfl⟩ := y
        subst eH
        have hc' : (TL.tl w)[i]? = some c := by rw [← hc]; exact Array.getElem?_toList
        refine ⟨rfl, ?_⟩
        dsimp only [tYes]
        rw [if_pos rfl]
        refine ⟨_, rfl, c, S mkL, rfl, rfl, ?_⟩
        subst e
        refine ⟨_, upd_same, szL (by rw [List.length_map, List.length_take]; omega), ?_⟩
        rw [upd_upd, List.take_add_one, hc']
        simp [mkL]
      · subst e
        refine ⟨D, (TL.tl w).map fun c => decide (c ∈ mkL), rfl, SqL.of (by rw [upd_same, List.take_of_length_le (by rw [← TL.len_tl]; exact Nat.le_of_eq hz.symm), List.map_map]; rfl), ?_⟩
        rw [List.all_map]
        have := q _ (same_new (fun _ _ z => z) hD (.lst (((TL.tl w).take w.cps.size).map fun c => V.bl (decide (c ∈ mkL)))))
        rw [isMk_lt, decide_eq_true c1, decide_eq_true c2] at this
        exact this
    · rw [no (by rw [decide_eq_false c2, Bool.and_false])] at q0
      exact ifn (decide_eq_false c2) q0
  · rw [no (by rw [decide_eq_false c1, Bool.false_and])] at q0
    exact ifn (decide_eq_false c1) ⟨_, rfl, ifF q0⟩

end
end Vf

set_option maxRecDepth 100000
set_option maxHeartbeats 4000000
namespace Vf
open PySem PySem.Spec PyProof.Rows L2 SX
section
variable {P : Program} {w : World} {K : PySem.W.Frag} {mg : Str → Option Value} {base : Heap}
theorem ok_lawWord {f : Addr} {fd : FuncData} (F : C8.Def K mg "_law_word" s_lawWord f fd) (b : Binds K fd ["_law_pen_here", "_law_signs", "_law_most"] []) (T : Tx K w mg) (C_draw : C8.Cal P w K mg base 1 "_law_draw" sp_draw []) (C_pick : C8.Cal P w K mg base 2 "_law_pick" sp_pick []) : C8.Cal P w K mg base 3 "_law_word" sp_lawWord [] := by
  refine C8.cal0 F b .nil sc_lawWord (fun vs H Q E h => ?_) (fun cdv A outer s H vs Q E hr h => ?_)
  · obtain ⟨p, c, a, m, n, sg, rfl, _⟩ := h; rfl
  have hu := hu_of hr
  refine ⟨_, (pss_one (ps_ret (pe_join pe_str (pe_lc (own := [("_law_k", 3)]) (g := (gName 3)) (tt := tYes) rfl sc_lawWord.nd (pi_range1 (by rfl) T.z_range (pa_cons (pe_op op_add pe_int (C8.pe_c C_draw hr (by decide) rfl (pa_cons (pv 0) (pa_cons (pv 2) pa_nil)))) pa_nil)) (blkOk_by (N := N_lawWord) (sc := C8.fnScope s_lawWord) (by decide +kernel)) (fun _ _ _ _ _ => pg_name (i := 3) sc_lawWord.nd rfl (Or.inl rfl)) (fun _ _ _ _ _ => pts_nil) (fun _ _ _ _ _ => (C8.pe_c C_pick hr (by decide) rfl (pa_cons (pv 0) (pa_cons (pv 1) pa_nil)))))))), ?_⟩

  obtain ⟨p, c, a, m, n, sg, rfl, hp, hm, ha, ⟨hs1, hs2, hs3⟩, hn1, hn2, q⟩ := h
  refine ⟨⟨_, rfl⟩, _, rfl, _, rfl, p, c, m, n, rfl, hp, by omega, hn1, by omega, fun H1 r k1 k2 hr1 => ?_⟩
  refine ⟨_, _, rfl, rfl, _, rfl, by omega, by omega, fun D hD => ?_⟩
  rw [show ((1 : Int) + (r : Int)).toNat = 1 + r by omega]
  refine lc_penK (m0 := m + 1) (s := 1) (k := 3) (fun v _ => Ones (· ∈ sg) v) (fun _ _ _ _ h => h) (by show 3 < 4; decide) hD k2 (by omega) (fun i H2 m2 Q2 hi kk hp2 hm2 hq => ?_) (fun H2 xs e1 e2 e3 e4 e5 => ?_)
  · refine ⟨_, rfl, _, rfl, p, c, m2, _, rfl, hp2, by omega, .inr ⟨a, _, rfl, kk.lst (k1.lst ha), by rw [List.length_map]; exact hs1, by rw [List.length_map]; omega, fun H3 v j1 j2 j3 => ?_⟩⟩
    obtain ⟨ch, hc, rfl⟩ := List.mem_map.mp j3
    exact hq H3 _ j1 j2 ⟨ch, rfl, hc⟩
  · obtain ⟨t, rfl, ht⟩ := ones_of e2
    have et : t.length = 1 + r := by rw [← e1, List.length_map, List.length_map]
    refine ⟨S [], D, t.map fun c => S [c], rfl, rfl, .inl (SqL.of e3), ones_bound (by omega), ?_⟩
    rw [join_ones]
    exact q H2 t (k1.trans e4) (e5.mono (by omega)) (by omega) (by omega) ht

end
end Vf

set_option maxRecDepth 100000
set_option maxHeartbeats 4000000
namespace Vf
open PySem PySem.Spec PyProof.Rows L2 SX
section
variable {P : Program} {w : World} {K : PySem.W.Frag} {mg : Str → Option Value} {base : Heap}
theorem ok_markSigns {f : Addr} {fd : FuncData} (F : C8.Def K mg "_law_mark_signs" s_markSigns f fd) (b : Binds K fd [] []) (T : Tx K w mg)  : C8.Cal P w K mg base 1 "_law_mark_signs" sp_markSigns [] := by
  refine C8.cal0 F b .nil sc_markSigns (fun vs H Q E h => ?_) (fun cdv A outer s H vs Q E hr h => ?_)
  · obtain ⟨rfl, _⟩ := h; rfl
  have hu := hu_of hr
  refine ⟨_, (pss_one (ps_ret (pe_callTy (call_listS rfl) (by rfl) T.z_list (by decide +kernel) (pa_cons pe_str pa_nil)))), ?_⟩

  obtain ⟨rfl, q⟩ := h
  refine ⟨mkL, by decide +kernel, by decide, fun p hp => ?_⟩
  exact q _ p (same1 hp _) hp upd_same

end
end Vf

set_option maxRecDepth 100000
set_option maxHeartbeats 4000000
namespace Vf
open PySem PySem.Spec PyProof.Rows L2 SX
section
variable {P : Program} {w : World} {K : PySem.W.Frag} {mg : Str → Option Value} {base : Heap}
theorem ok_optionCanStand {f : Addr} {fd : FuncData} (F : C8.Def K mg "option_can_stand" s_optionCanStand f fd) (b : Binds K fd ["ahead", "word"] []) (T : Tx K w mg)  : C8.Cal P w K mg base 1 "option_can_stand" (sp_optionCanStand K) [] := by
  refine C8.cal0 F b .nil sc_optionCanStand (fun vs H Q E h => ?_) (fun cdv A outer s H vs Q E hr h => ?_)
  · obtain ⟨a, ws, w, rfl, _⟩ := h; rfl
  have hu := hu_of hr
  refine ⟨_, (pss_cons (ps_if (pt_cmpR op_notIn_seq (pv 1) (C8.pe_gc rfl (Classical.choose_spec T.g_OPTIONS).1) rfl)
      (pss_one (ps_ret pe_bl))
      pss_nil)
      (pss_cons (ps_set (i := 2) sc_optionCanStand.nd rfl (Or.inr rfl) (pe_slice sl_list (pv 0) (po_some pe_int) po_none))
      (pss_cons (ps_if (pt_val (pe_callB (cr_any rfl) (by rfl) T.z_any (by decide +kernel) (pa_cons (pe_lc (own := [("option", 3)]) (g := (gName 3)) (tt := tYes) rfl sc_optionCanStand.nd (pi_tup (pe_slice sl_tupA (C8.pe_gc rfl (Classical.choose_spec T.g_OPTIONS).1) (po_some (pe_bm PySem.F.plainAttrs_tuple PySem.F.slot_tuple_index PySem.F.type_tuple_index mt_tup_index (C8.pe_gc rfl (Classical.choose_spec T.g_OPTIONS).1) (pa_cons (pv 1) pa_nil))) po_none)) (blkOk_by (N := N_optionCanStand) (sc := C8.fnScope s_optionCanStand) (by decide +kernel)) (fun _ _ _ _ _ => pg_name (i := 3) sc_optionCanStand.nd rfl (Or.inl rfl)) (fun _ _ _ _ _ => pts_nil) (fun _ _ _ _ _ => (pe_cmpR (op_in_seqK (K := K) rfl) (pv 3) (pv 2) rfl))) pa_nil)))
      (pss_one (ps_ret pe_bl))
      pss_nil)
      (pss_cons (ps_if (pt_cmpR op_eq (pv 1) pe_str (nomark _))
      (pss_one (ps_ret pe_bl))
      pss_nil)
      (pss_cons (ps_if (pt_cmpR op_eq (pv 1) pe_str (nomark _))
      (pss_one (ps_ret (pe_and (pe_cmpR op_eq (pe_ix ix_list (pv 0) pe_int (fun _ _ => rfl)) pe_str (nomark _)) (pe_one (pe_cmpR op_notIn_seq (pe_ix ix_list (pv 0) pe_int (fun _ _ => rfl)) (pe_tup (pa_cons pe_str (pa_cons (pe_ix ix_list (pv 0) pe_int (fun _ _ => rfl)) pa_nil))) rfl)))))
      pss_nil)
      (pss_one (ps_ret (pe_and (pe_cmpR op_ne (pe_ix ix_list (pv 0) pe_int (fun _ _ => rfl)) pe_str (nomark _)) (pe_one (pe_not (pe_and (pe_cmpR op_eq (pv 1) pe_str (nomark _)) (pe_one (pe_cmpR op_in_seq pe_str (pv 2) rfl))))))))))))), ?_⟩

  obtain ⟨a, ws, w, rfl, ha, h4, hz, hf, n1, n2, hw, q⟩ := h
  rw [← optP_eq hf n1 n2] at q
  have gO := (Classical.choose_spec T.g_OPTIONS).2.1
  have gT := (Classical.choose_spec T.g_OPTIONS).2.2
  refine ⟨_, rfl, _, OPTS.map V.str, rfl, .inr (gO H), rfl, rfl, _, rfl, ?_⟩
  show if (!inV (.str w) (OPTS.map V.str)) = true then _ else _
  rw [inV_strs]
  by_cases m : w ∈ OPTS
  case neg =>
    have q0 := q H (same_refl H)
    unfold optP at q0
    rw [if_pos m] at q0
    exact ify (by rw [decide_eq_false m]; rfl) q0
  refine ifn (by rw [decide_eq_true m]; rfl) ?_
  refine ⟨_, rfl, 4, rfl, a, _, rfl, ha, fun G hG => ?_⟩
  have eG : cutV (ws.map V.str) (some 4) none = (ws.drop 4).map V.str := (cut_from _ 4).trans (strs_drop ws 4)
  rw [eG]
  obtain ⟨i1, i2⟩ := idx_first m
  have hG1 : (upd H G (.lst ((ws.drop 4).map V.str))) G = some (.lst ((ws.drop 4).map V.str)) := upd_same
  refine ⟨.inr (.inl ⟨rfl, gT⟩), _, rfl, _, OPTS, w, OPTS.idxOf w, rfl, rfl, gO _, i1, i2, _, rfl, ?_⟩
  dsimp only [tNoPart]
  refine slT_from (OPTS.idxOf w) (gO _) fun b H1 s1 hb => ⟨b, rfl, ⟨_, hb⟩, fun D hD => ?_⟩
  have hG2 := s1 _ _ hG1
  have s0 : Same H H1 := fun c o z => s1 _ _ (same1 hG _ c o z)
  rw [show ([V.str "nested", V.str "escape", V.str "doubled", V.str "line"] : List V) = OPTS.map V.str from rfl, strs_drop] at hb
  refine lc_tup (K := K) (a := b) (xs := (OPTS.drop (OPTS.idxOf w)).map V.str) (fun i H' => H' D = some (.lst ((((OPTS.drop (OPTS.idxOf w)).take i).map fun o => V.bl (decide (o ∈ ws.drop 4))))) ∧ Same H1 H') ⟨upd_same, same1 hD _⟩ (fun i H' _ ⟨_, z⟩ => sqT_same z hb) ?_ ?_
  · rintro i x H2 hx ⟨e1, e2⟩
    rw [List.getElem?_map] at hx
    obtain ⟨o, ho, rfl⟩ := Option.map_eq_some_iff.mp hx
    refine ⟨rfl, ?_⟩
    dsimp only [tYes]
    rw [if_pos rfl]
    refine ⟨_, rfl, _, rfl, G, _, rfl, .inl (SqL.of (e2 _ _ hG2)), rfl, flat_strs _, ?_⟩
    have hl : (OPTS.drop (OPTS.idxOf w)).length ≤ 4 := by rw [List.length_drop]; show 4 - _ ≤ 4; omega
    refine ⟨_, e1, szL (by rw [List.length_map, List.length_take]; omega), ?_, same_upd e2 hD _⟩
    rw [upd_same, List.take_add_one, ho]
    show some (HO.lst (_ ++ [V.bl (inV (.str o) ((ws.drop 4).map V.str))])) = _
    rw [inV_strs]
    simp
  · rintro H2 ⟨e1, e2⟩
    rw [List.length_map, List.take_length] at e1
    refine ⟨D, (OPTS.drop (OPTS.idxOf w)).map fun o => decide (o ∈ ws.drop 4), rfl, SqL.of (by rw [e1, List.map_map]; rfl), _, rfl, ?_⟩
    rw [List.any_map]
    have s2 : Same H H2 := fun c o z => e2 _ _ (s0 c o z)
    have q2 := q H2 s2
    have ha2 := sqL_same s2 ha
    unfold optP at q2
    rw [if_neg (by simpa using m)] at q2
    cases c : (OPTS.drop (OPTS.idxOf w)).any (fun o => decide (o ∈ ws.drop 4)) with
    | true =>
      rw [if_pos c] at q2
      exact ify c q2
    | false =>
      rw [if_neg (by rw [c]; exact Bool.false_ne_true)] at q2
      refine ifn c ?_
      refine ⟨_, rfl, rfl, _, rfl, ?_⟩
      rw [dS]
      by_cases c1 : w = "escape"
      · rw [if_pos c1] at q2
        exact ify (decide_eq_true c1) q2
      rw [if_neg c1] at q2
      refine ifn (decide_eq_false c1) ⟨_, rfl, rfl, _, rfl, ?_⟩
      rw [dS]
      by_cases c2 : w = "nested"
      · rw [if_pos c2] at q2
        refine ify (decide_eq_true c2) ?_
        refine ⟨_, rfl, a, _, 0, _, rfl, rfl, ha2, at_strs (i := 0) (by omega), rfl, _, rfl, ?_⟩
        rw [dS, ← getD_at (by omega : 0 < ws.length)]
        by_cases c3 : ws.getD 0 "" = "remark"
        · rw [decide_eq_true c3, Bool.true_and] at q2
          refine ify (decide_eq_true c3) ?_
          refine ⟨_, rfl, a, _, 3, _, rfl, rfl, ha2, at_strs (i := 3) (by omega), ?_⟩
          refine ⟨_, rfl, a, _, 1, _, rfl, rfl, ha2, at_strs (i := 1) (by omega), sz_2, fun t ht => ?_⟩
          refine ⟨t, [.str "line", .str ws[1]], rfl, .inr (SqT.of upd_same), rfl, rfl, ?_⟩
          show Q (.bl (!inV (.str ws[3]) (([("line" : Str), ws[1]] : List Str).map V.str))) _
          rw [inV_strs, ← getD_at (by omega : 3 < ws.length), ← getD_at (by omega : 1 < ws.length)]
          have q3 := q _ (same_new s2 ht (.tup [.str "line", .str (ws.getD 1 "")]))
          unfold optP at q3
          rw [if_neg (by simpa using m), if_neg (by rw [c]; exact Bool.false_ne_true), if_neg c1, if_pos c2, decide_eq_true c3, Bool.true_and] at q3
          exact q3
        · rw [decide_eq_false c3, Bool.false_and] at q2
          exact ifn (decide_eq_false c3) q2
      · rw [if_neg c2] at q2
        refine ifn (decide_eq_false c2) ?_
        refine ⟨_, rfl, a, _, 3, _, rfl, rfl, ha2, at_strs (i := 3) (by omega), rfl, _, rfl, ?_⟩
        have e3 : (!decide (V.str ws[3] = V.str "line")) = decide (ws.getD 3 "" ≠ "line") := by
          rw [dS, getD_at (by omega : 3 < ws.length)]
          by_cases z : ws[3] = "line" <;> simp [z]
        by_cases c3 : ws.getD 3 "" ≠ "line"
        · rw [decide_eq_true c3, Bool.true_and] at q2
          refine ify (e3.trans (decide_eq_true c3)) ?_
          refine ⟨_, rfl, rfl, _, rfl, ?_⟩
          rw [dS]
          by_cases c4 : w = "doubled"
          · rw [decide_eq_true c4, Bool.true_and] at q2
            refine ify (decide_eq_true c4) ⟨_, rfl, G, _, rfl, .inl (SqL.of (e2 _ _ hG2)), rfl, flat_strs _, _, rfl, ?_⟩
            rw [if_neg Bool.false_ne_true, inV_strs]
            exact q2
          · rw [decide_eq_false c4, Bool.false_and] at q2
            exact ifn (decide_eq_false c4) ⟨_, rfl, q2⟩
        · rw [decide_eq_false c3, Bool.false_and] at q2
          exact ifn (e3.trans (decide_eq_false c3)) q2

end
end Vf

set_option maxRecDepth 100000
set_option maxHeartbeats 4000000
namespace Vf
open PySem PySem.Spec PyProof.Rows L2 SX
section
variable {P : Program} {w : World} {K : PySem.W.Frag} {mg : Str → Option Value} {base : Heap}
theorem ok_pen {f : Addr} {fd : FuncData} (F : C8.Def K mg "_law_pen" s_pen f fd) (b : Binds K fd ["_law_script"] []) (T : Tx K w mg)  : C8.Cal P w K mg base 1 "_law_pen" (sp_pen K) [] := by
  refine C8.cal0 F b .nil sc_pen (fun vs H Q E h => ?_) (fun cdv A outer s H vs Q E hr h => ?_)
  · obtain ⟨a, ns, rfl, _⟩ := h; rfl
  have hu := hu_of hr
  refine ⟨_, (pss_cons (ps_set (i := 1) sc_pen.nd rfl (Or.inl rfl) pe_int)
      (pss_cons (ps_for PassesOwn.never rfl (pi_list (pv 0)) (pg_name (i := 2) sc_pen.nd rfl (Or.inl rfl))
      (pss_one (ps_set (i := 1) sc_pen.nd rfl (Or.inl rfl) (pe_op op_mod (pe_callTy call_int1 (by rfl) T.z_int (by decide +kernel) (pa_cons (pe_op op_add (pe_op op_mul (pv 1) pe_int) (pv 2)) pa_nil)) pe_int))))
      (pss_one (ps_ret (pe_disp (pps_cons pe_str (pe_callTy call_list_of (by rfl) T.z_list (by decide +kernel) (pa_cons (pv 0) pa_nil)) (pps_cons pe_str pe_int (pps_cons pe_str pe_int (pps_cons pe_str pe_int (pps_cons pe_str (pv 1) pps_nil))))) (by rfl) (by rfl) (fun z => by cases z) (by decide)))))), ?_⟩

  obtain ⟨a, ns, rfl, hS, hl, q⟩ := h
  refine ⟨_, rfl, a, rfl, ⟨_, hS⟩, for_list (K := K) (a := a) (xs := ns.map V.int) (fun i σ H2 => ∃ (f : Int) (v : Option V), σ = [some (.ref a), some (.int f), v] ∧ H2 = H ∧ 0 ≤ f ∧ f < 1000000007)
    ⟨0, none, rfl, rfl, by decide, by decide⟩ (fun i σ H2 _ ⟨_, _, _, e, _⟩ => by rw [e]; exact hS) ?_ ?_⟩
  · rintro i y σ H2 hi ⟨fo, v, rfl, rfl, h0, h1⟩
    obtain ⟨z, rfl⟩ : ∃ z, y = V.int z := by
      rw [List.getElem?_map] at hi
      cases e : ns[i]? with
      | none => rw [e] at hi; cases hi
      | some z => rw [e] at hi; exact ⟨z, (Option.some.inj hi).symm⟩
    refine ⟨_, rfl, _, _, rfl, rfl, .inl ⟨by omega, by omega⟩, _, rfl, _, _, rfl, rfl, .inl ⟨_, rfl, _, _, rfl, rfl, (by decide : (0 : Int) < 1000000007), ?_⟩⟩
    exact ⟨_, _, rfl, rfl, Int.emod_nonneg _ (by decide), Int.emod_lt_of_pos _ (by decide)⟩
  · rintro σ H2 ⟨fo, v, rfl, rfl, h0, h1⟩
    intro p np
    refine ⟨_, rfl, a, _, rfl, .inl ((Ks.new1 np _).seq hS), fun c nc => ?_⟩
    have hcp : c ≠ p := fun e => by rw [e, upd_same] at nc; cases nc
    refine ⟨_, rfl, by rw [upd_ne hcp.symm, upd_same], [(.inr "cells", .ref c), (.inr "at", .int 0), (.inr "digits", .int 0), (.inr "count", .int 0), (.inr "fold", .int fo)], rfl, (by show 5 ≤ 15; decide), ?_⟩
    have nc0 : H2 c = none := by rw [upd_ne hcp] at nc; exact nc
    refine q _ p c (((Ks.new1 np _).upd nc0 _).upd np _) ⟨ns, 0, 0, 0, fo, Eq.trans upd_same rfl, ?_, hl, by decide, by decide, by decide, by decide, h0, by omega⟩
    rw [upd_ne hcp, upd_same]

end
end Vf

set_option maxRecDepth 100000
set_option maxHeartbeats 4000000
namespace Vf
open PySem PySem.Spec PyProof.Rows L2 SX
section
variable {P : Program} {w : World} {K : PySem.W.Frag} {mg : Str → Option Value} {base : Heap}
theorem ok_pick {f : Addr} {fd : FuncData} (F : C8.Def K mg "_law_pick" s_pick f fd) (b : Binds K fd ["_law_pen_here", "_law_some_here"] []) (T : Tx K w mg) (C_draw : C8.Cal P w K mg base 1 "_law_draw" sp_draw []) : C8.Cal P w K mg base 2 "_law_pick" sp_pick [] := by
  refine C8.cal0 F b .nil sc_pick (fun vs H Q E h => ?_) (fun cdv A outer s H vs Q E hr h => ?_)
  · obtain ⟨p, c, m, x, rfl, _⟩ := h; rfl
  have hu := hu_of hr
  refine ⟨_, (pss_one (ps_ret (pe_ix ix_seq (pv 1) (C8.pe_c C_draw hr (by decide) rfl (pa_cons (pv 0) (pa_cons (pe_callB call_len (by rfl) T.z_len PySem.boot_len (pa_cons (pv 1) pa_nil)) pa_nil))) (fun _ _ => rfl)))), ?_⟩

  obtain ⟨p, c, m, x, rfl, hp, hm, q⟩ := h
  rcases q with ⟨l, rfl, l1, l2, q⟩ | ⟨a, xs, rfl, ha, l1, l2, q⟩
  · refine ⟨_, rfl, _, rfl, _, rfl, _, l.length, rfl, ⟨by rw [S_len]; exact szB l2, by rw [S_len]⟩, ?_⟩
    refine ⟨p, c, m, l.length, rfl, hp, hm, l1, by omega, fun H' r k1 k2 hr' => ?_⟩
    refine .inr (.inr ⟨S l, _, l[r], rfl, rfl, by rw [S_len]; exact szB l2, atI_nat (List.getElem?_eq_getElem hr'), ?_⟩)
    exact q H' _ k1 k2 (List.getElem_mem _)
  · refine ⟨_, rfl, _, rfl, _, rfl, _, xs.length, rfl, .inl ⟨_, SqL.of ha, rfl⟩, ?_⟩
    refine ⟨p, c, m, xs.length, rfl, hp, hm, l1, by omega, fun H' r k1 k2 hr' => ?_⟩
    refine .inl ⟨a, xs, _, xs[r], rfl, rfl, SqL.of (k1.lst ha), atI_nat (List.getElem?_eq_getElem hr'), ?_⟩
    exact q H' _ k1 k2 (List.getElem_mem _)

end
end Vf

set_option maxRecDepth 100000
set_option maxHeartbeats 4000000
namespace Vf
open PySem PySem.Spec PyProof.Rows L2 SX
section
variable {P : Program} {w : World} {K : PySem.W.Frag} {mg : Str → Option Value} {base : Heap}
theorem seqIx {r n : Nat} (h : r < n) : seqIndex? (r : Int) n = some r := by
  show (if (decide ((0 : Int) ≤ (if (r : Int) < 0 then (r : Int) + n else (r : Int))) && decide ((if (r : Int) < 0 then (r : Int) + n else (r : Int)) < (n : Int))) = true then some (if (r : Int) < 0 then (r : Int) + n else (r : Int)).toNat else none) = some r
  rw [if_neg (show ¬ ((r : Int) < 0) by omega), decide_eq_true (show (0 : Int) ≤ (r : Int) by omega), decide_eq_true (show (r : Int) < (n : Int) by omega)]
  rfl
theorem erase_one : ∀ (l : List Nat) (r : Nat), (l.map one).eraseIdx r = (l.eraseIdx r).map one
  | [], _ => rfl
  | _ :: _, 0 => rfl
  | c :: l, r + 1 => congrArg (one c :: ·) (erase_one l r)
theorem ok_some {f : Addr} {fd : FuncData} (F : C8.Def K mg "_law_some" s_some f fd) (b : Binds K fd ["_law_pen_here", "_law_items", "_law_many"] []) (T : Tx K w mg) (C_draw : C8.Cal P w K mg base 1 "_law_draw" sp_draw []) : C8.Cal P w K mg base 2 "_law_some" sp_some [] := by
  refine C8.cal0 F b .nil sc_some (fun vs H Q E h => ?_) (fun cdv A outer s H vs Q E hr h => ?_)
  · obtain ⟨p, c, a, m, n, l, rfl, _⟩ := h; rfl
  have hu := hu_of hr
  refine ⟨_, (pss_cons (ps_par (i := 3) (j := 4) (by rfl) sc_some.nd rfl rfl (by decide) rfl rfl (pa_cons (pe_callTy call_list_of (by rfl) T.z_list (by decide +kernel) (pa_cons (pv 1) pa_nil)) (pa_cons (pe_lst pa_nil) pa_nil)) (by rfl))
      (pss_cons (ps_for PassesOwn.never rfl (pi_range1 (by rfl) T.z_range (pa_cons (pe_callB (call_min2 rfl) (by rfl) T.z_min (by decide +kernel) (pa_cons (pv 2) (pa_cons (pe_callB call_len (by rfl) T.z_len PySem.boot_len (pa_cons (pv 3) pa_nil)) pa_nil))) pa_nil)) (pg_name (i := 5) sc_some.nd rfl (Or.inl rfl))
      (pss_one (ps_expr (pe_bm PySem.F.plainAttrs_list PySem.F.slot_list_append PySem.F.type_list_append mt_append (pv 4) (pa_cons (pe_bm PySem.F.plainAttrs_list PySem.F.slot_list_pop PySem.F.type_list_pop mt_popAt (pv 3) (pa_cons (C8.pe_c C_draw hr (by decide) rfl (pa_cons (pv 0) (pa_cons (pe_callB call_len (by rfl) T.z_len PySem.boot_len (pa_cons (pv 3) pa_nil)) pa_nil))) pa_nil)) pa_nil)))))
      (pss_one (ps_ret (pv 4))))), ?_⟩

  obtain ⟨p, c, a, m, n, l, rfl, hp, hm, ha, hn1, hn2, hn3, hn4, q⟩ := h
  refine ⟨_, rfl, a, _, rfl, .inl (SqL.of ha), fun A hA => ⟨szB (by decide), fun B hB => ?_⟩⟩
  have hA1 : (upd (upd H A (.lst (l.map one))) B (.lst [])) A = some (.lst (l.map one)) := by rw [upd_ne (ne_of_none (show (upd H A (.lst (l.map one))) A = _ from upd_same) hB)]; exact upd_same
  have hB0 : H B = none := (Ks.new1 hA (.lst (l.map one))).free hB
  refine ⟨_, _, rfl, _, rfl, _, rfl, _, l.length, rfl, .inl ⟨_, SqL.of hA1, (List.length_map ..).symm⟩, _, _, rfl, ((n : Nat) : Int), congrArg (fun z : Int => [V.int z]) (if_neg (show ¬ ((l.length : Nat) : Int) < (n : Int) by omega)), by omega, by omega, ?_⟩
  rw [show ((n : Nat) : Int).toNat = n by omega]
  refine for_range (lo := 0) (n := n) (fun i σ H' => ∃ (v5 : Option V) (xs ys : List Nat), σ = [some (.ref p), some (.ref a), some (.int (n : Int)), some (.ref A), some (.ref B), v5] ∧ H' A = some (.lst (xs.map one)) ∧ H' B = some (.lst (ys.map one)) ∧ xs.length + i = l.length ∧ ys.length = i ∧ (∀ x ∈ xs, x ∈ l) ∧ (∀ x ∈ ys, x ∈ l) ∧ Ks H H' ∧ PenAt H' p c (m + i))
    ⟨none, l, [], rfl, hA1, upd_same, rfl, rfl, fun _ z => z, (fun _ z => nomatch z), (Ks.new1 hA _).new hB _, (hp.new hA).new hB⟩ ?_ ?_
  · rintro i σ H1 hi ⟨v5, xs, ys, rfl, h1A, h1B, e1, e2, e3, e4, k1, p1⟩
    have nAB : A ≠ B := ne_of_none (show (upd H A (.lst (l.map one))) A = _ from upd_same) hB
    refine ⟨_, rfl, .inl ⟨rfl, _, SqL.of h1B⟩, _, rfl, .inl ⟨rfl, _, SqL.of h1A⟩, _, rfl, _, rfl, _, xs.length, rfl, .inl ⟨_, SqL.of h1A, (List.length_map ..).symm⟩, p, c, m + i, xs.length, rfl, p1, by omega, by omega, by omega, fun H2 r k2 p2 hr2 => ?_⟩
    have h2A := k2.lst h1A
    have h2B := k2.lst h1B
    refine ⟨A, _, (r : Int), r, one xs[r], rfl, rfl, h2A, by omega, by omega, by rw [List.length_map]; exact seqIx hr2, by rw [List.getElem?_map, List.getElem?_eq_getElem hr2]; rfl, ?_⟩
    have k3 : Ks H (upd H2 A (.lst ((xs.eraseIdx r).map one))) := (k1.trans k2).upd hA _
    have p3 : PenAt (upd H2 A (.lst ((xs.eraseIdx r).map one))) p c (m + i + 1) := p2.upd (hp.ne hA).1 (hp.ne hA).2
    rw [erase_one]
    have h3B : (upd H2 A (.lst ((xs.eraseIdx r).map one))) B = some (.lst (ys.map one)) := by rw [upd_ne (Ne.symm nAB)]; exact h2B
    refine ⟨B, _, _, rfl, rfl, h3B, szL (by rw [List.length_map]; omega), _, xs.eraseIdx r, ys ++ [xs[r]], rfl, ?_, ?_, ?_, ?_, ?_, ?_, k3.upd hB0 _, ?_⟩
    · rw [upd_ne nAB]; exact upd_same
    · rw [upd_same, List.map_append]; rfl
    · rw [List.length_eraseIdx, if_pos hr2]; omega
    · rw [List.length_append, e2]; rfl
    · exact fun x hx => e3 x (List.mem_of_mem_eraseIdx hx)
    · intro x hx
      rcases List.mem_append.mp hx with hx | hx
      · exact e4 x hx
      · rw [List.mem_singleton.mp hx]; exact e3 _ (List.getElem_mem _)
    · exact (p3.upd (hp.ne hB0).1 (hp.ne hB0).2).mono (by omega)
  · rintro σ H1 ⟨v5, xs, ys, rfl, h1A, h1B, e1, e2, e3, e4, k1, p1⟩
    exact ⟨_, rfl, q H1 B ys k1 p1 h1B e2 e4⟩

end
end Vf

set_option maxRecDepth 100000
set_option maxHeartbeats 4000000
namespace Vf
open PySem PySem.Spec PyProof.Rows L2 SX
section
variable {P : Program} {w : World} {K : PySem.W.Frag} {mg : Str → Option Value} {base : Heap}
theorem ok_wrongColumn {f : Addr} {fd : FuncData} (F : C8.Def K mg "wrong_column" s_wrongColumn f fd) (b : Binds K fd ["line", "openers"] []) (T : Tx K w mg) (C_canStand : C8.Cal P w K mg base 2 "can_stand" (sp_canStand K) []) : C8.Cal P w K mg base 3 "wrong_column" (sp_wrongColumn K) [] := by
  refine C8.cal0 F b .nil sc_wrongColumn (fun vs H Q E h => ?_) (fun cdv A outer s H vs Q E hr h => ?_)
  · obtain ⟨o, os, l, rfl, _⟩ := h; rfl
  have hu := hu_of hr
  refine ⟨_, (pss_cons (ps_set (i := 2) sc_wrongColumn.nd rfl (Or.inl rfl) (pe_split (pv 0) pe_str))
      (pss_cons (ps_set (i := 3) sc_wrongColumn.nd rfl (Or.inl rfl) pe_int)
      (pss_cons (ps_for PassesOwn.never rfl (pi_enum (by rfl) T.z_enumerate (pa_cons (pv 2) pa_nil)) (pg_tup rfl (pgs_cons (pg_name (i := 4) sc_wrongColumn.nd rfl (Or.inl rfl)) (pgs_cons (pg_name (i := 5) sc_wrongColumn.nd rfl (Or.inl rfl)) pgs_nil)))
      (pss_cons (ps_if (pt_not (pt_val (C8.pe_c C_canStand hr (by decide) rfl (pa_cons (pe_slice sl_list (pv 2) po_none (po_some (pv 4))) (pa_cons (pv 5) (pa_cons (pv 1) pa_nil))))))
      (pss_one (ps_ret (pv 3)))
      pss_nil)
      (pss_one (ps_aug (i := 3) sc_wrongColumn.nd rfl (Or.inl rfl) (pe_op op_add (pe_callB call_len (by rfl) T.z_len PySem.boot_len (pa_cons (pv 5) pa_nil)) pe_int) ip_add))))
      (C8.pss_cut (ps_if (PW.pt (pw_or (pt_cmpR op_lt (pe_callB call_len (by rfl) T.z_len PySem.boot_len (pa_cons (pv 2) pa_nil)) pe_int (nomark _)) (pw_or1 (pt_cmpR op_in_seq (pe_ix ix_list (pv 2) (pe_un un_neg pe_int) (fun _ _ => rfl)) (pe_tup (pa_cons pe_str (pa_cons pe_str pa_nil))) rfl))))
      (pss_one (ps_ret (pe_op op_add (pe_callB call_len (by rfl) T.z_len PySem.boot_len (pa_cons (pv 0) pa_nil)) pe_int)))
      pss_nil)
      (pss_one (ps_ret pe_non)))))), ?_⟩

  obtain ⟨o, os, l, rfl, ho, hl, q⟩ := h
  obtain ⟨b1, b2, b3⟩ := spS_bnd l
  refine ⟨_, rfl, ⟨_, rfl⟩, _, _, rfl, rfl, by decide +kernel, szB (by omega), fun W hW => ?_⟩
  have eW : Txt.split l (Str.ofString " ") = spS l := rfl
  rw [eW]
  have z1 : (spS l).length ≤ 1001 := by omega
  have gW : (upd H W (.lst ((spS l).map V.str))) W = some (.lst ((spS l).map V.str)) := upd_same
  refine ⟨_, rfl, W, (spS l).map V.str, rfl, SqL.of gW, ?_⟩
  refine for_it walk_enum (fun i σ H' => ∃ (c : Nat) (v4 v5 : Option V), σ = [some (.str l), some (.ref o), some (.ref W), some (.int (c : Int)), v4, v5] ∧ H' W = some (.lst ((spS l).map V.str)) ∧ Same H H' ∧ Vd ((spS l).take i) os ∧ wcGo os [] (spS l) 1 = wcGo os ((spS l).take i) ((spS l).drop i) c)
    ⟨1, none, none, rfl, gW, same1 hW _, vd_nil os, rfl⟩ (fun i σ H' _ ⟨_, _, _, _, z, _⟩ => SqL.of z) ?_ ?_
  · rintro i x σ H1 H2 hi ⟨c, v4, v5, rfl, h1, s1, vd, e⟩ ⟨T', x', y', rfl, hT, rfl, ex, ey⟩
    cases ex
    dsimp only at ey
    rw [List.getElem?_map] at ey
    obtain ⟨w', hw', rfl⟩ := Option.map_eq_some_iff.mp ey
    have s2 := same_new s1 hT (.tup [.int (i : Int), .str w'])
    have h2 : (upd H1 T' (.tup [.int (i : Int), .str w'])) W = some (.lst ((spS l).map V.str)) := by rw [upd_ne (ne_of_none h1 hT)]; exact h1
    refine ⟨T', _, rfl, SqT.of upd_same, rfl, _, _, rfl, _, _, rfl, rfl, ?_⟩
    refine ⟨_, rfl, _, rfl, (i : Int), rfl, W, _, rfl, SqL.of h2, fun G hG => ?_⟩
    rw [cut_to, strs_take]
    have s3 := same_new s2 hG (.lst (((spS l).take i).map V.str))
    have h3 : (upd (upd H1 T' (.tup [.int (i : Int), .str w'])) G (.lst (((spS l).take i).map V.str))) W = some (.lst ((spS l).map V.str)) := by rw [upd_ne (ne_of_none h2 hG)]; exact h2
    have hwl : w'.length ≤ 1000 := Nat.le_trans (b2 w' (List.mem_of_getElem? hw')) hl
    refine ⟨_, rfl, _, rfl, G, o, (spS l).take i, os, w', rfl, SqL.of upd_same, sqL_same s3 ho, vd, by rw [List.length_take]; omega, hwl, fun H3 s4 => ⟨_, rfl, ?_⟩⟩
    have ed : (spS l).drop i = w' :: (spS l).drop (i + 1) := by
      obtain ⟨hlt, eg⟩ := List.getElem?_eq_some_iff.mp hw'
      rw [← eg]; exact List.drop_eq_getElem_cons hlt
    have et : (spS l).take (i + 1) = (spS l).take i ++ [w'] := by rw [List.take_add_one, hw']; rfl
    rw [ed] at e
    rw [wcGo_cons] at e
    have sH : Same H H3 := fun b u z => s4 _ _ (s3 b u z)
    cases cb : canB ((spS l).take i) w' os with
    | false =>
      rw [cb, if_neg Bool.false_ne_true] at e
      refine ifT ⟨_, rfl, ?_⟩
      have qq := q H3 sH
      unfold wcol at qq
      rw [show wcGo os [] (spS l) 1 = some c from e] at qq
      exact qq
    | true =>
      rw [cb, if_pos rfl] at e
      refine ifF ⟨_, rfl, _, rfl, _, w'.length, rfl, ⟨szB (by omega), rfl⟩, _, _, rfl, rfl, _, _, rfl, rfl, ?_⟩
      refine ⟨c + (w'.length + 1), _, _, rfl, s4 _ _ h3, sH, by rw [et]; exact vd_snoc vd cb, by rw [et]; exact e⟩
  · rintro σ H1 ⟨c, v4, v5, rfl, h1, s1, vd, e⟩
    rw [List.length_map] at vd e
    rw [List.drop_length, List.take_length] at e
    rw [List.take_length] at vd
    have en : wcGo os [] (spS l) 1 = none := e
    have qw : ∀ H', Same H H' → Q (colV .non (if (spS l).length < 4 ∨ (spS l).getLast? = some ("nested" : Str) ∨ (spS l).getLast? = some ("escape" : Str) then some (l.length + 1) else none)) H' := fun H' s' => by
      have := q H' s'
      unfold wcol at this
      rw [en] at this
      exact this
    refine ⟨fun σ' H' => Same H H' ∧ σ' = [some (.str l), some (.ref o), some (.ref W), some (.int (c : Int)), v4, v5] ∧ ¬ ((spS l).length < 4 ∨ (spS l).getLast? = some ("nested" : Str) ∨ (spS l).getLast? = some ("escape" : Str)), ?_, ?_⟩
    · refine ⟨_, rfl, _, (spS l).length, rfl, .inl ⟨_, SqL.of h1, (List.length_map ..).symm⟩, _, _, rfl, rfl, _, rfl, ?_⟩
      have e4 : decide (((spS l).length : Int) < 4) = decide ((spS l).length < 4) := decide_eq_decide.mpr (by omega)
      rw [e4]
      by_cases c4 : (spS l).length < 4
      · refine ify (decide_eq_true c4) ?_
        have := qw H1 s1
        rw [if_pos (.inl c4)] at this
        exact ⟨_, rfl, _, l.length, rfl, ⟨szB (by omega), rfl⟩, _, _, rfl, rfl, this⟩
      · refine ifn (decide_eq_false c4) ?_
        obtain ⟨u, gl, lst⟩ := at_lastS (ws := spS l) (by intro z; rw [z] at b3; exact absurd b3 (by decide))
        refine ⟨_, rfl, _, rfl, W, _, _, _, rfl, rfl, SqL.of h1, lst, sz_2, fun t ht => ?_⟩
        refine ⟨t, _, rfl, .inr (SqT.of upd_same), rfl, rfl, _, rfl, ?_⟩
        rw [show ([V.str "nested", V.str "escape"] : List V) = (["nested", "escape"] : List Str).map V.str from rfl, inV_strs]
        have s2 := same_new s1 ht (.tup ((["nested", "escape"] : List Str).map V.str))
        by_cases c5 : u ∈ (["nested", "escape"] : List Str)
        · refine ify (decide_eq_true c5) ?_
          have c6 : u = "nested" ∨ u = "escape" := by simpa using c5
          have := qw _ s2
          rw [if_pos (.inr (by rw [gl]; rcases c6 with z | z <;> rw [z] <;> simp))] at this
          exact ⟨_, rfl, _, l.length, rfl, ⟨szB (by omega), rfl⟩, _, _, rfl, rfl, this⟩
        · refine ifn (decide_eq_false c5) ⟨s2, rfl, ?_⟩
          have c6 : u ≠ "nested" ∧ u ≠ "escape" := by simpa using c5
          rw [gl]
          rintro (z | z | z)
          · exact c4 z
          · exact c6.1 (Option.some.inj z)
          · exact c6.2 (Option.some.inj z)
    · rintro σ' H2 ⟨s2, rfl, nn⟩
      have := qw H2 s2
      rw [if_neg nn] at this
      exact this

end
end Vf

set_option maxRecDepth 100000
set_option maxHeartbeats 4000000
namespace Vf
open PySem PySem.Spec PyProof.Rows L2 SX
section
variable {P : Program} {w : World} {K : PySem.W.Frag} {mg : Str → Option Value} {base : Heap}
theorem ok_ruleWeight {f : Addr} {fd : FuncData} {CR CD CG : Addr} (F : C8.Def K mg "rule_weight" s_ruleWeight f fd) (b : Binds K fd ["rule"] []) (T : Tx K w mg) (A0 : Ca K CR CD CG) : C8.Cal P w K mg base 1 "rule_weight" (sp3_ruleWeight CR) [] := by
  refine C8.cal0 F b .nil sc_ruleWeight (fun vs H Q E h => ?_) (fun cdv A outer s H vs Q E hr h => ?_)
  · obtain ⟨_, _, rfl, _⟩ := h; rfl
  have hu := hu_of hr
  refine ⟨_, (C8.pss_cut (ps_set (i := 1) sc_ruleWeight.nd rfl (Or.inl rfl) (pe_ifExp (pt_truth (pe_fld (pv 0) rfl) (by intro _; rfl)) (pe_op op_sub (pe_callB call_len (by rfl) T.z_len PySem.boot_len (pa_cons (pe_fld (pv 0) rfl) pa_nil)) pe_int) pe_int))
      (C8.pss_cut (ps_if (pt_truth (pe_fld (pv 0) rfl) (by intro _; rfl))
      (pss_one (ps_aug (i := 1) sc_ruleWeight.nd rfl (Or.inl rfl) (pe_op op_sub (pe_callB call_len (by rfl) T.z_len PySem.boot_len (pa_cons (pe_fld (pv 0) rfl) pa_nil)) pe_int) ip_add))
      pss_nil)
      (C8.pss_cut (ps_if (pt_val (pe_fld (pv 0) rfl))
      (pss_one (ps_set (i := 1) sc_ruleWeight.nd rfl (Or.inl rfl) (pe_op op_sub (pe_op op_mul pe_int (pe_callB call_len (by rfl) T.z_len PySem.boot_len (pa_cons (pe_fld (pv 0) rfl) pa_nil))) pe_int)))
      pss_nil)
      (C8.pss_cut (ps_if (pt_truth (pe_fld (pv 0) rfl) (by intro _; rfl))
      (pss_one (ps_aug (i := 1) sc_ruleWeight.nd rfl (Or.inl rfl) pe_int ip_add))
      pss_nil)
      (pss_one (ps_ret (pe_op op_add (pe_op op_sub (pe_callB call_len (by rfl) T.z_len PySem.boot_len (pa_cons (pe_fld (pv 0) rfl) pa_nil)) pe_int) (pe_op op_mul (pe_callB (call_max2 rfl) (by rfl) T.z_max (by decide +kernel) (pa_cons (pe_fld (pv 0) rfl) (pa_cons pe_int pa_nil))) (pe_op op_add pe_int (pv 1)))))))))), ?_⟩

  obtain ⟨v, f, rfl, hfd, ⟨h1, h2, h3, h4⟩, q⟩ := h
  obtain ⟨a, dx, rfl, ha⟩ := hfd
  have cl := A0.iR.cl
  let m1 : Int := if ((f.cl.length : Int) != 0) = true then (f.cl.length : Int) - 1 else 0
  let m2 : Int := if ((f.nd : Int) != 0) = true then m1 + ((f.op.length : Int) - 1) else m1
  let m3 : Int := if f.db = true then 2 * (f.cl.length : Int) - 1 else m2
  let m4 : Int := if ((f.es.length : Int) != 0) = true then m3 + 1 else m3
  have step : ∀ {t : TS} {u : TS} {D : Ends} {σ : L2.St} (m : Int), t { D with nx := fun σ' H' => σ' = [some (.ref a), some (.int m)] ∧ H' = H } σ H → u D [some (.ref a), some (.int m)] H → C8.tCut t u D σ H := fun m h1 h2 => ⟨_, h1, fun σ' H' ⟨e1, e2⟩ => by rw [e1, e2]; exact h2⟩
  refine step m1 ?_ (step m2 ?_ (step m3 ?_ (step m4 ?_ ?_)))
  · refine ⟨_, rfl, a, CR, dx, _, _, rfl, ha, cl, A0.r3, rfl, _, ⟨szB (by omega), rfl⟩, ?_⟩
    show (if _ then _ else _)
    cases e : ((f.cl.length : Int) != 0) with
    | true => exact ifT ⟨_, rfl, a, CR, dx, _, _, rfl, ha, cl, A0.r3, rfl, _, f.cl.length, rfl, ⟨szB (by omega), rfl⟩, _, _, rfl, rfl, by show _ = [_, some (V.int m1)]; simp only [m1, e, if_true]; rfl, rfl⟩
    | false => exact ifF ⟨by show _ = [_, some (V.int m1)]; simp only [m1, e, Bool.false_eq_true, if_false]; rfl, rfl⟩
  · refine ⟨_, rfl, a, CR, dx, _, _, rfl, ha, cl, A0.r4, rfl, _, rfl, ?_⟩
    cases e : ((f.nd : Int) != 0) with
    | true => exact ifT ⟨_, rfl, _, rfl, a, CR, dx, _, _, rfl, ha, cl, A0.r2, rfl, _, f.op.length, rfl, ⟨szB (by omega), rfl⟩, _, _, rfl, rfl, _, _, rfl, rfl, by show _ = [_, some (V.int m2)]; simp only [m2, e, if_true]; rfl, rfl⟩
    | false => exact ifF ⟨by show _ = [_, some (V.int m2)]; simp only [m2, e, Bool.false_eq_true, if_false], rfl⟩
  · refine ⟨_, rfl, a, CR, dx, _, _, rfl, ha, cl, A0.r6, rfl, _, rfl, ?_⟩
    cases e : f.db with
    | true => exact ifT ⟨_, rfl, a, CR, dx, _, _, rfl, ha, cl, A0.r3, rfl, _, f.cl.length, rfl, ⟨szB (by omega), rfl⟩, _, _, rfl, rfl, .inl ⟨by decide, by decide⟩, _, _, rfl, rfl, by show _ = [_, some (V.int m3)]; simp only [m3, e, if_true]; rfl, rfl⟩
    | false => exact ifF ⟨by show _ = [_, some (V.int m3)]; simp only [m3, e, Bool.false_eq_true, if_false], rfl⟩
  · refine ⟨_, rfl, a, CR, dx, _, _, rfl, ha, cl, A0.r5, rfl, _, ⟨szB (by omega), rfl⟩, ?_⟩
    cases e : ((f.es.length : Int) != 0) with
    | true => exact ifT ⟨_, rfl, _, _, rfl, rfl, by show _ = [_, some (V.int m4)]; simp only [m4, e, if_true]; rfl, rfl⟩
    | false => exact ifF ⟨by show _ = [_, some (V.int m4)]; simp only [m4, e, Bool.false_eq_true, if_false], rfl⟩
  · refine ⟨_, rfl, a, CR, dx, _, _, rfl, ha, cl, A0.r2, rfl, _, f.op.length, rfl, ⟨szB (by omega), rfl⟩, _, _, rfl, rfl, ?_⟩
    refine ⟨_, rfl, a, CR, dx, _, _, rfl, ha, cl, A0.r4, rfl, _, _, rfl, ?_⟩
    refine ⟨_, rfl, _, _, rfl, rfl, _, _, rfl, rfl, .inl ?_, _, _, rfl, rfl, q⟩
    split <;> constructor <;> omega

end
end Vf

set_option maxRecDepth 100000
set_option maxHeartbeats 4000000
namespace Vf
open PySem PySem.Spec PyProof.Rows L2 SX
section
variable {P : Program} {w : World} {K : PySem.W.Frag} {mg : Str → Option Value} {base : Heap}
theorem ok3_Tongue_init {f : Addr} {fd : FuncData} {q : Str} {CR CD CG CT P0 : Addr} (M : Mk K CG f) (gc : mg "Tongue" = some (.ref CG)) (F : C8.Fun K "__init__" q s_Tongue_init f fd) (b : Binds K fd ["self", "text"] []) (T : Tx K w mg) (M_Reader : C8.Mak P w K mg base 5 "Reader" CD (sp2_Reader_init P w K CR CD P0) []) (A0 : Ca K CR CD CG) (C_readRules : CalX P w K mg base 4 "read_rules" (sp2_readRules CR CT)) (C_ruleWeight : C8.Cal P w K mg base 1 "rule_weight" (sp3_ruleWeight CR) []) : MakX P w K mg base 7 "Tongue" CG (sp3_Tongue_init P w K CR CD CG CT P0) := by
  refine makX M gc F b sc_Tongue_init (fun vs H Q E h => ?_) (fun cdv A outer s H vs Q E hr h => ?_)
  · obtain ⟨a, dx, t, rfl, _⟩ := h; rfl
  have hu := hu_of hr
  refine ⟨_, (pss_cons (ps_set (i := 2) sc_Tongue_init.nd rfl (Or.inl rfl) (pe_cx C_readRules hr (by decide) rfl (takes_of rfl rfl rfl rfl) (pa_cons (pv 1) pa_nil)))
      (pss_cons (ps_fld (pv 0) (pv 1) rfl)
      (C8.pss_cut (ps_fld (pv 0) (pe_ifExp (pt_truth (pv 1) (by intro _; rfl)) (pe_callTy call_tuple_of (by rfl) T.z_tuple (by decide +kernel) (pa_cons (pe_split (pv 1) pe_str) pa_nil)) (pe_tup pa_nil)) rfl)
      (pss_cons (ps_fld (pv 0) (pe_op op_add pe_int (pe_callB (cr_sum rfl) (by rfl) T.z_sum (by decide +kernel) (pa_cons (pe_lc (own := [("rule", 3)]) (g := (gName 3)) (tt := tYes) rfl sc_Tongue_init.nd (pi_tup (pv 2)) (blkOk_by (N := N_Tongue_init) (sc := C8.fnScope s_Tongue_init) (by decide +kernel)) (fun _ _ _ _ _ => pg_name (i := 3) sc_Tongue_init.nd rfl (Or.inl rfl)) (fun _ _ _ _ _ => pts_nil) (fun _ _ _ _ _ => (C8.pe_c C_ruleWeight hr (by decide) rfl (pa_cons (pv 3) pa_nil)))) pa_nil))) rfl)
      (pss_one (ps_fld (pv 0) (C8.pe_mk M_Reader hr (by decide) rfl (pa_cons (pv 2) pa_nil)) rfl)))))), ?_⟩

  obtain ⟨a, dx, t, rfl, ha, ht, lo, tb, sm, qo, qe⟩ := h
  have clG := A0.iG.cl
  refine ⟨_, rfl, t, rfl, ht, lo, fun e0 H1 b rs s1 hb hle hz hrw => ?_, fun p ep d H1 s1 hd => qe p ep d H1 s1 hd⟩
  have hru := fds_at hrw hle
  have fb := fds_ok e0
  have ha1 := s1 _ _ ha
  have tb1 := tb.ext s1
  have neR : ∀ {a' : Addr} {fs : List (Str × V)} {dx' C : Addr}, H1 a' = some (.ins C dx' fs) → fs ≠ [] → a' ≠ a := fun h n z => by
    rw [z, ha1] at h
    cases h
    exact n rfl
  refine ⟨_, rfl, _, rfl, a, CG, dx, _, rfl, ha1, clG, A0.g1, by decide, ?_⟩
  rw [show putF (Str.ofString "text") (V.str t) [] = [(Str.ofString "text", V.str t)] from rfl]
  have nba : b ≠ a := ne_of hb ha1 fun z => nomatch z
  have keep1 : ∀ c o, c ≠ a → H1 c = some o → (upd H1 a (.ins CG dx [("text", .str t)])) c = some o := fun c o n z => by rw [upd_ne n]; exact z
  have ha2 : (upd H1 a (.ins CG dx [("text", .str t)])) a = some (.ins CG dx [("text", .str t)]) := upd_same
  have tb2 : LamX.Tabs (T0 P0) (upd H1 a (.ins CG dx [("text", .str t)])) := tabs_upd tb1 ha1 (fun _ z => nomatch z) fun _ _ z => nomatch z
  generalize upd H1 a (.ins CG dx [("text", .str t)]) = H2 at keep1 ha2 tb2 ⊢
  refine ⟨fun σ' H' => σ' = [some (.ref a), some (.str t), some (.ref b), none] ∧ ∃ rt, H' a = some (.ins CG dx [("text", .str t), ("rules", .ref rt)]) ∧ H' rt = some (.tup ((lnsOf t).map V.str)) ∧ (∀ c o, c ≠ a → H2 c = some o → H' c = some o) ∧ LamX.Tabs (T0 P0) H', ?_, ?_⟩
  · have fin : ∀ (l : Addr) (H3 : Hp), Same H2 H3 → H3 l = some (.tup ((lnsOf t).map V.str)) → ∃ rt, (upd H3 a (.ins CG dx [("text", .str t), ("rules", .ref l)])) a = some (.ins CG dx [("text", .str t), ("rules", .ref rt)]) ∧ (upd H3 a (.ins CG dx [("text", .str t), ("rules", .ref l)])) rt = some (.tup ((lnsOf t).map V.str)) ∧ (∀ c o, c ≠ a → H2 c = some o → (upd H3 a (.ins CG dx [("text", .str t), ("rules", .ref l)])) c = some o) ∧ LamX.Tabs (T0 P0) (upd H3 a (.ins CG dx [("text", .str t), ("rules", .ref l)])) := fun l H3 s3 hl => by
      have ha3 := s3 _ _ ha2
      exact ⟨l, upd_same, by rw [upd_ne (ne_of hl ha3 fun z => nomatch z)]; exact hl, fun c o n z => by rw [upd_ne n]; exact s3 _ _ z, tabs_upd (tb2.ext s3) ha3 (fun _ z => nomatch z) fun _ _ z => nomatch z⟩
    refine ⟨_, rfl, _, ⟨szB (by omega), rfl⟩, ?_⟩
    rw [str_ne0]
    by_cases c0 : t ≠ ""
    · have eL : (Txt.split t (Str.ofString "\n")).map V.str = (lnsOf t).map V.str := by unfold lnsOf; rw [if_neg c0]
      refine ify (decide_eq_true c0) ⟨_, rfl, ⟨_, rfl⟩, _, _, rfl, rfl, by decide +kernel, szB (by omega), fun L hL => ?_⟩
      refine ⟨L, _, rfl, .inl ⟨SqL.of upd_same, fun l hl => ?_⟩⟩
      have sL := same1 hL (.lst ((Txt.split t (Str.ofString "\n")).map V.str))
      have sl := same_new sL hl (.tup ((Txt.split t (Str.ofString "\n")).map V.str))
      refine ⟨_, rfl, a, CG, dx, _, rfl, sl _ _ ha2, clG, A0.g2, (by decide : (1 : Nat) < 1000), rfl, ?_⟩
      exact fin l _ sl (by rw [upd_same, eL])
    · have eL : lnsOf t = [] := by unfold lnsOf; rw [if_pos (Decidable.not_not.mp c0)]
      refine ifn (decide_eq_false c0) ⟨szB (by decide), fun l hl => ?_⟩
      have sl := same1 hl (.tup [])
      refine ⟨_, rfl, a, CG, dx, _, rfl, sl _ _ ha2, clG, A0.g2, (by decide : (1 : Nat) < 1000), rfl, ?_⟩
      exact fin l _ sl (by rw [upd_same, eL]; rfl)
  rintro σ' H3 ⟨rfl, rt, ha3, hrt, keep3, tb3⟩
  have keep13 : ∀ c o, c ≠ a → H1 c = some o → H3 c = some o := fun c o n z => keep3 c o n (keep1 c o n z)
  have hb3 := keep13 _ _ nba hb
  have hru3 : FdsAt CR H3 rs (fdsOf (lnsOf t)) := hru.keep fun c dx f z => keep13 _ _ (neR z fun z => nomatch z) z
  refine ⟨_, rfl, b, rfl, ⟨_, SqT.of hb3⟩, fun D hD => ?_⟩
  refine lc_tup (K := K) (a := b) (xs := rs) (fun i H' => H' D = some (.lst ((((fdsOf (lnsOf t)).take i).map fdWt).map V.int)) ∧ Same H3 H') ⟨upd_same, same1 hD _⟩ (fun i H' _ ⟨_, z⟩ => SqT.of (z _ _ hb3)) ?_ ?_
  · rintro i x H4 hx ⟨g1, g2⟩
    have hil := (List.getElem?_eq_some_iff.mp hx).1
    have hfl : i < (fdsOf (lnsOf t)).length := by rw [← hru3.1]; exact hil
    have hf : (fdsOf (lnsOf t))[i]? = some (fdsOf (lnsOf t))[i] := List.getElem?_eq_getElem hfl
    have hfa := hru3.2 i x _ hx hf
    have hfm := sm _ (List.getElem_mem hfl)
    generalize (fdsOf (lnsOf t))[i] = f9 at hf hfa hfm
    refine ⟨rfl, ?_⟩
    dsimp only [tYes]
    rw [if_pos rfl]
    refine ⟨_, rfl, x, f9, rfl, hfa.keep (fun b C dx fs z => g2 _ _ z), hfm, ?_⟩
    refine ⟨_, g1, szL (by rw [List.length_map, List.length_map, List.length_take]; omega), ?_, fun c o y => by rw [upd_ne (ne_of_none y hD)]; exact g2 _ _ y⟩
    rw [upd_same, List.take_add_one, hf, List.map_append, List.map_append]; rfl
  · rintro H4 ⟨g1, g2⟩
    rw [List.take_of_length_le (by rw [hru3.1]; exact Nat.le_refl _)] at g1
    let ns := (fdsOf (lnsOf t)).map fdWt
    refine ⟨D, ns, rfl, SqL.of g1, _, _, rfl, rfl, ?_⟩
    have ha4 := g2 _ _ ha3
    refine ⟨_, rfl, a, CG, dx, _, rfl, ha4, clG, A0.g3, (by decide : (2 : Nat) < 1000), ?_⟩
    rw [show putF (Str.ofString "weight") (V.int (1 + ns.sum)) [(Str.ofString "text", V.str t), (Str.ofString "rules", V.ref rt)] = [(Str.ofString "text", V.str t), (Str.ofString "rules", V.ref rt), (Str.ofString "weight", V.int (1 + ns.sum))] from rfl]
    have tb5 : LamX.Tabs (T0 P0) (upd H4 a (.ins CG dx [("text", .str t), ("rules", .ref rt), ("weight", .int (1 + ns.sum))])) := tabs_upd (tb3.ext g2) ha4 (fun _ z => nomatch z) fun _ _ z => nomatch z
    have ha5 : (upd H4 a (.ins CG dx [("text", .str t), ("rules", .ref rt), ("weight", .int (1 + ns.sum))])) a = some (.ins CG dx [("text", .str t), ("rules", .ref rt), ("weight", .int (1 + ns.sum))]) := upd_same
    have keep5 : ∀ c o, c ≠ a → H3 c = some o → (upd H4 a (.ins CG dx [("text", .str t), ("rules", .ref rt), ("weight", .int (1 + ns.sum))])) c = some o := fun c o n z => by rw [upd_ne n]; exact g2 _ _ z
    generalize upd H4 a (.ins CG dx [("text", .str t), ("rules", .ref rt), ("weight", .int (1 + ns.sum))]) = H5 at tb5 ha5 keep5 ⊢
    refine ⟨_, rfl, fun x dxx hx hdx ne => ?_⟩
    have hdx' := hdx
    have sx1 := same1 hdx (.own x)
    have hx1 : (upd H5 dxx (.own x)) x = none := by rw [upd_ne ne.symm]; exact hx
    have sx := same_new sx1 hx1 (.ins CD dxx [])
    have nrt : rt ≠ a := ne_of hrt ha3 fun z => nomatch z
    refine ⟨x, dxx, b, rs, fdsOf (lnsOf t), rfl, upd_same, sx _ _ (keep5 _ _ nba hb3), hz, ?_, fun f hf => (fb f hf).ok, tb5.ext sx, fun H6 pm x6 tb6 hx6 mm => ⟨rfl, ?_⟩⟩
    · exact hru3.keep fun c dx f z => sx _ _ (keep5 _ _ (fun y => by rw [y, ha3] at z; cases z) z)
    have nx : ∀ {c o}, H5 c = some o → c ≠ x := fun z => ne_of_none z hx
    have ha6 := x6 _ _ (nx ha5) (sx _ _ ha5) (fun _ z => nomatch z)
    have hrt5 := keep5 _ _ nrt hrt
    have hrt6 := x6 _ _ (nx hrt5) (sx _ _ hrt5) (fun _ z => nomatch z)
    refine ⟨_, rfl, a, CG, dx, _, rfl, ha6, clG, A0.g4, (by decide : (3 : Nat) < 1000), ?_⟩
    have hb6 := x6 _ _ (nx (keep5 _ _ nba hb3)) (sx _ _ (keep5 _ _ nba hb3)) (fun _ z => nomatch z)
    have nxa : x ≠ a := (nx ha5).symm
    have keep6 : ∀ {c o}, c ≠ a → H6 c = some o → (upd H6 a (.ins CG dx (tgF t rt (1 + ns.sum) x))) c = some o := fun n z => by rw [upd_ne n]; exact z
    have mkA : ∀ v k, MkAt K H6 v k → MkAt K (upd H6 a (.ins CG dx (tgF t rt (1 + ns.sum) x))) v k := fun v k ⟨t', u, ev, q1, b', e2, q2⟩ =>
      ⟨t', u, ev, keep6 (ne_of q1 ha6 fun z => nomatch z) q1, b', e2, sqT_upd q2 ha6 (fun _ z => nomatch z) (fun _ _ z => nomatch z)⟩
    have keyA : ∀ {xs m ks}, KeyAt K H6 xs m ks → KeyAt K (upd H6 a (.ins CG dx (tgF t rt (1 + ns.sum) x))) xs m ks := fun ⟨b2, b', ys, kys, q1, q2, q3, q4, q5⟩ =>
      ⟨b2, b', ys, kys, q1, keep6 (ne_of q2 ha6 fun z => nomatch z) q2, q3, q4, q5.imp mkA⟩
    have fds6 : FdsAt CR H6 rs (fdsOf (lnsOf t)) := hru3.keep fun c dx' f z => by
      have z5 := keep5 _ _ (fun y => by rw [y, ha3] at z; cases z) z
      exact x6 _ _ (nx z5) (sx _ _ z5) (fun _ y => nomatch y)
    obtain ⟨xs, m1, m2, m3, m4⟩ := mm
    have npa : pm ≠ a := fun y => by rw [y, ha6] at m1; exact nomatch m1
    refine qo e0 _ (fun c o n z m => ?_) (tabs_upd tb6 ha6 (fun _ z => nomatch z) fun _ _ z => nomatch z) ⟨dx, rt, _, x, dxx, b, pm, rs, upd_same, keep6 nrt hrt6, keep6 nxa hx6, keep6 nba hb6, fds6.keep fun c dx' f z => keep6 (fun y => by rw [y, ha6] at z; cases z) z, xs, keep6 npa m1, fun y hy => sqT_upd (m2 y hy) ha6 (fun _ z => nomatch z) (fun _ _ z => nomatch z), keyA m3, fun i f d a1 a2 a3 => keyA (m4 i f d a1 a2 a3)⟩ ⟨dx, t, rt, x, upd_same⟩
    rw [upd_ne n]
    have z5 := keep5 _ _ n (keep13 _ _ n (s1 _ _ z))
    exact x6 _ _ (nx z5) (sx _ _ z5) m

end
end Vf

set_option maxRecDepth 100000
set_option maxHeartbeats 4000000
namespace Vf
open PySem PySem.Spec PyProof.Rows L2 SX
section
variable {P : Program} {w : World} {K : PySem.W.Frag} {mg : Str → Option Value} {base : Heap}
theorem ok_ReadingMachine_init {f : Addr} {fd : FuncData} {q : Str} {CR CD CG CM : Addr} (M : Mk K CM f) (gc : mg "ReadingMachine" = some (.ref CM)) (F : C8.Fun K "__init__" q s_ReadingMachine_init f fd) (b : Binds K fd ["self", "tongue"] []) (T : Tx K w mg) (A0 : Ca K CR CD CG) (AM : Cm K CM) : C8.Mak P w K mg base 1 "ReadingMachine" CM (sp_RM_init P w K CR CD CG CM) [] := by
  refine C8.mak0 M gc F b .nil sc_ReadingMachine_init (fun vs H Q E h => ?_) (fun cdv A outer s H vs Q E hr h => ?_)
  · obtain ⟨_, _, _, rfl, _⟩ := h; rfl
  have hu := hu_of hr
  refine ⟨_, (pss_cons (ps_fld (pv 0) (pv 1) rfl)
      (pss_one (ps_fld (pv 0) (pe_tup (StX.pa_star (C8.pe_gc rfl (Classical.choose_spec T.g_CODE).1) (pa_cons pe_str pa_nil))) rfl))), ?_⟩

  obtain ⟨a, dx, tg, rfl, ha, q⟩ := h
  have cl := AM.iM.cl
  have gC := (Classical.choose_spec T.g_CODE).2
  refine ⟨_, rfl, _, rfl, a, CM, dx, _, rfl, ha, cl, AM.m1, (by decide : (0 : Nat) < 1000), ?_⟩
  rw [show putF (Str.ofString "tongue") (V.ref tg) [] = [(Str.ofString "tongue", V.ref tg)] from rfl]
  refine ⟨_, _, rfl, .inl (gC _), szB (show 4 ≤ 1000000 by decide), fun B hB => ?_⟩
  have ha1 : (upd H a (.ins CM dx [("tongue", .ref tg)])) a = some (.ins CM dx [("tongue", .ref tg)]) := upd_same
  have nBa : B ≠ a := (ne_of_none ha1 hB).symm
  have ha2 : upd (upd H a (.ins CM dx [("tongue", .ref tg)])) B (.tup ([.int (-1), .int 0, .int 0] ++ [.str ""])) a = some (.ins CM dx [("tongue", .ref tg)]) := by rw [upd_ne nBa.symm]; exact ha1
  refine ⟨_, rfl, a, CM, dx, _, rfl, ha2, cl, AM.m2, (by decide : (1 : Nat) < 1000), ?_⟩
  refine q _ (fun b o n z => ?_) ⟨dx, B, upd_same, by rw [upd_ne nBa]; exact upd_same⟩
  have e1 : (upd H a (.ins CM dx [("tongue", .ref tg)])) b = some o := by rw [upd_ne n]; exact z
  rw [upd_ne n, upd_ne (ne_of_none e1 hB)]; exact e1

end
end Vf

set_option maxRecDepth 100000
set_option maxHeartbeats 4000000
namespace Vf
open PySem PySem.Spec PyProof.Rows L2 SX
section
variable {P : Program} {w : World} {K : PySem.W.Frag} {mg : Str → Option Value} {base : Heap}
theorem ok_alikeBehind {f : Addr} {fd : FuncData} (F : C8.Def K mg "_law_alike_behind" s_alikeBehind f fd) (b : Binds K fd ["_law_rules", "_law_one", "_law_two", "_law_more", "_law_left"] []) (T : Tx K w mg) (C_lawKinds : C8.Cal P w K mg base 3 "_law_kinds" sp_lawKinds []) : C8.Cal P w K mg base 4 "_law_alike_behind" sp_alikeBehind [] := by
  refine C8.cal0 F b .nil sc_alikeBehind (fun vs H Q E h => ?_) (fun cdv A outer s H vs Q E hr h => ?_)
  · obtain ⟨_, _, _, _, _, _, rfl, _⟩ := h; rfl
  have hu := hu_of hr
  refine ⟨_, (pss_cons (ps_par (i := 5) (j := 6) (by rfl) sc_alikeBehind.nd rfl rfl (by decide) rfl rfl (pa_cons (C8.pe_c C_lawKinds hr (by decide) rfl (pa_cons (pv 0) (pa_cons (pe_op op_add_str (pv 1) (pv 3)) pa_nil))) (pa_cons (C8.pe_c C_lawKinds hr (by decide) rfl (pa_cons (pv 0) (pa_cons (pe_op op_add_str (pv 2) (pv 3)) pa_nil))) pa_nil)) (by rfl))
      (pss_one (ps_ret (pe_cmpR op_eq (pe_slice C8.sl_txt (pv 5) (po_some (pe_op op_sub (pe_callB call_len (by rfl) T.z_len PySem.boot_len (pa_cons (pv 1) pa_nil)) (pv 4))) po_none) (pe_slice C8.sl_txt (pv 6) (po_some (pe_op op_sub (pe_callB call_len (by rfl) T.z_len PySem.boot_len (pa_cons (pv 2) pa_nil)) (pv 4))) po_none) (nomark _))))), ?_⟩

  obtain ⟨L, qs, x, y, u, n, rfl, hL, ok, hx, hy, lx, ly, q⟩ := h
  have tx : (S x).length = x.length := S_len x
  have ty : (S y).length = y.length := S_len y
  have tu : (S u).length = u.length := S_len u
  refine ⟨_, rfl, _, rfl, _, rfl, _, _, rfl, rfl, szB (by omega), ?_⟩
  rw [S_cat]
  refine ⟨L, qs, x ++ u, rfl, hL, ok, by rw [List.length_append]; omega, fun H1 s1 => ?_⟩
  refine ⟨_, rfl, _, rfl, _, rfl, _, _, rfl, rfl, szB (by omega), ?_⟩
  rw [S_cat]
  refine ⟨L, qs, y ++ u, rfl, hL.same s1, ok, by rw [List.length_append]; omega, fun H2 s2 => ?_⟩
  have k1 := kds_len ok.ok ok.nn (x ++ u)
  have k2 := kds_len ok.ok ok.nn (y ++ u)
  rw [List.length_append] at k1 k2
  refine ⟨_, _, rfl, ?_⟩
  have e1 : (x.length : Int) - (n : Int) = ((x.length - n : Nat) : Int) := by omega
  have e2 : (y.length : Int) - (n : Int) = ((y.length - n : Nat) : Int) := by omega
  have on : ∀ (a : List Nat) (i : Nat), Txt.slice (S a) (some (i : Int)) none = S (a.drop i) := fun a i => by rw [slice_from (by omega)]; rfl
  refine ⟨_, rfl, _, rfl, _, x.length, rfl, ⟨by rw [tx]; exact szB (by omega), tx.symm⟩, _, rfl, _, _, rfl, rfl, _, rfl, _, rfl, szB (by rw [S_len]; omega), ?_⟩
  rw [e1, on]
  refine ⟨_, rfl, _, rfl, _, y.length, rfl, ⟨by rw [ty]; exact szB (by omega), ty.symm⟩, _, rfl, _, _, rfl, rfl, _, rfl, _, rfl, szB (by rw [S_len]; omega), ?_⟩
  rw [e2, on]
  refine ⟨rfl, ?_⟩
  have e3 : ∀ a b : List Nat, decide (V.str (S a) = V.str (S b)) = decide (a = b) := fun a b => decide_eq_decide.mpr ⟨fun z => by have := congrArg TL.tl (V.str.inj z); rw [TL.tl_mk, TL.tl_mk] at this; exact this, fun z => by rw [z]⟩
  rw [e3]
  exact q H2 fun b o z => s2 _ _ (s1 _ _ z)

end
end Vf

set_option maxRecDepth 100000
set_option maxHeartbeats 4000000
namespace Vf
open PySem PySem.Spec PyProof.Rows L2 SX
section
variable {P : Program} {w : World} {K : PySem.W.Frag} {mg : Str → Option Value} {base : Heap}
theorem flat_take {α : Type} {ls : List (List α)} {i : Nat} {x : List α} (h : ls[i]? = some x) : (ls.take (i + 1)).flatten = (ls.take i).flatten ++ x := by
  rw [List.take_add_one, h, List.flatten_append]
  show _ ++ ([x] : List (List α)).flatten = _
  rw [List.flatten_cons, List.flatten_nil, List.append_nil]
theorem flat_le {α : Type} {ls : List (List α)} (i : Nat) : ((ls.take i).flatten).length ≤ ls.flatten.length := by
  conv => rhs; rw [← List.take_append_drop i ls, List.flatten_append, List.length_append]
  omega
theorem ok_allPairs {f : Addr} {fd : FuncData} (F : C8.Def K mg "_law_all_pairs" s_allPairs f fd) (b : Binds K fd ["_law_told"] []) (T : Tx K w mg)  : C8.Cal P w K mg base 1 "_law_all_pairs" sp_allPairs [] := by
  refine C8.cal0 F b .nil sc_allPairs (fun vs H Q E h => ?_) (fun cdv A outer s H vs Q E hr h => ?_)
  · obtain ⟨_, _, _, rfl, _⟩ := h; rfl
  have hu := hu_of hr
  refine ⟨_, (pss_cons (ps_set (i := 1) sc_allPairs.nd rfl (Or.inl rfl) (pe_lst pa_nil))
      (pss_cons (ps_for PassesOwn.never rfl (pi_list (pv 0)) (pg_name (i := 2) sc_allPairs.nd rfl (Or.inl rfl))
      (pss_one (ps_set (i := 1) sc_allPairs.nd rfl (Or.inl rfl) (pe_op op_cat (pv 1) (pe_callTy call_list_of (by rfl) T.z_list (by decide +kernel) (pa_cons (pv 2) pa_nil))))))
      (pss_one (ps_ret (pv 1))))), ?_⟩

  obtain ⟨B, ws, pss, rfl, hB, hl, hw, hz, q⟩ := h
  refine ⟨szB (by decide), fun F0 hF0 => ?_⟩
  have s0 := same1 hF0 (.lst [])
  refine ⟨_, rfl, B, rfl, ⟨_, SqL.of (s0 _ _ hB)⟩, ?_⟩
  refine for_list (K := K) (a := B) (xs := ws) (fun i σ H' => Same H H' ∧ ∃ (F : Addr) (us : List V) (v2 : Option V), σ = [some (.ref B), some (.ref F), v2] ∧ H' F = some (.lst us) ∧ PrE H' us (pss.take i).flatten) ⟨s0, F0, [], none, rfl, upd_same, .nil⟩ (fun i σ H' _ z => SqL.of (z.1 _ _ hB)) ?_ ?_
  · rintro i x σ H1 hx ⟨s1, F, us, v2, rfl, hF, pe⟩
    have hil : i < pss.length := by rw [← hl]; exact (List.getElem?_eq_some_iff.mp hx).1
    have hp : pss[i]? = some pss[i] := List.getElem?_eq_getElem hil
    obtain ⟨b, ys, rfl, hb, hyl, hy⟩ := (hw i x _ hx hp).same s1
    generalize pss[i] = ps at hp hyl hy
    have fl := flat_le (ls := pss) (i + 1)
    rw [flat_take hp, List.length_append] at fl
    have pl := pe.1
    refine ⟨_, rfl, _, rfl, b, ys, rfl, .inr (SqT.of hb), fun l hl0 => ?_⟩
    have s2 := same1 hl0 (.lst ys)
    have hl2 : upd H1 l (.lst ys) l = some (.lst ys) := upd_same
    refine ⟨F, l, us, ys, rfl, rfl, s2 _ _ hF, hl2, szB (by omega), fun G hG => ?_⟩
    have s3 := same1 hG (.lst (us ++ ys))
    refine ⟨fun c o z => s3 _ _ (s2 _ _ (s1 _ _ z)), G, us ++ ys, _, rfl, upd_same, ?_⟩
    rw [flat_take hp]
    exact ((pe.same s2).same s3).app (PrE.same (PrE.same ⟨hyl, hy⟩ s2) s3)
  · rintro σ H1 ⟨s1, F, us, v2, rfl, hF, pe⟩
    rw [List.take_of_length_le (by omega)] at pe
    exact ⟨_, rfl, q H1 F us s1 hF pe⟩

end
end Vf

set_option maxRecDepth 100000
set_option maxHeartbeats 4000000
namespace Vf
open PySem PySem.Spec PyProof.Rows L2 SX LamX
/-! ### a text's signs, starred -/
section
variable {X : Cx} {k : Nat} {e : Expr} {es : List Expr} {te : TE} {t : TA} {p pos : Pos}
theorem signs_vals {l : List Nat} {acc : Array Value} (h : ItemsOf (SignAt (S l)) acc (S l).cps.size) : Vals (l.map fun c => V.str (S [c])) acc.toList := by
  have hz0 : (S l).cps.size = l.length := List.size_toArray
  refine vals_get (by rw [List.length_map, Array.length_toList]; exact (h.1.trans hz0).symm) fun i x y hx hy => ?_
  rw [List.getElem?_map] at hx
  obtain ⟨c, u, hc', rfl⟩ := h.2 i y (by rw [← Array.getElem?_toList]; exact hy)
  have e : l[i]? = some c := (List.getElem?_toArray ..).symm.trans hc'
  rw [e] at hx
  cases hx
  exact ⟨u, rfl⟩
theorem collect_txt {pins : List (Addr × Obj)} {σ : L2.St} {H : Hp} {s : Shared} {l : List Nat} {tk : Tok} {E : Value → Shared → Prop} {Q : List Value → Shared → Prop} (hc : X.calm = true) (I : Inv X pins σ H s) (hl : l.length ≤ 1000000)
    (hQ : ∀ us s', Inv X pins σ H s' → Vals (l.map fun c => V.str (S [c])) us → Q us s') : wpAny (model X.prog X.w) X.A (collect (.str (S l) tk)) Q E s := by
  have hz0 : (S l).cps.size = l.length := List.size_toArray
  refine wpAny_collect_str (I.ok.hd hc) (S l) tk (fun s' acc hk g d o hi => ?_) (by rw [hz0]; exact Nat.le_trans hl (by decide))
  obtain ⟨h', g', d', t', o'⟩ := s'
  have g2 : g' = s.gens := g
  have d2 : d' = s.drawn := d
  have o2 : o' = s.os := o
  subst g2 d2 o2
  exact hQ acc.toList _ (I.kept (t' := t') hk) (signs_vals hi)
def tStarX (te : TE) (t : TA) : TA := fun σ H Q => te σ H fun x H1 => ∃ l : List Nat, x = .str (S l) ∧ l.length ≤ 1000000 ∧ t σ H1 fun ys H2 => Q ((l.map fun c => V.str (S [c])) ++ ys) H2
theorem pa_starX (hc : X.calm = true) (he : PE X e te) (hr : PA X es t) (hs : starEach (.Starred e p :: es) X.env = (true, eval e X.env) :: starEach es X.env := by rfl) : PA X (.Starred e p :: es) (tStarX te t) := by
  refine ⟨fun pos pins s σ H Q I h => ?_⟩
  refine PySem.W.items_star (thn (he.run pins s σ H _ I h) fun v s1 ⟨y, H1, I1, ry, l, ey, hl, q⟩ => ?_) hs
  subst ey
  obtain ⟨tk, rfl⟩ := ry
  have z := collect_txt (tk := tk) (E := X.xe) hc I1 hl (Q := fun here s2 => wpAny (model X.prog X.w) X.A (spliced (backTo pos (starEach es X.env))) (fun us s3 => ∃ ws H3, Inv X pins σ H3 s3 ∧ Vals ws (here ++ us) ∧ Q ws H3) X.xe s2) fun us s2 I2 rv =>
    thn (hr.run pos pins s2 σ H1 _ I2 q) fun ws s3 ⟨vs, H3, I3, r3, q3⟩ => ⟨_ ++ vs, H3, I3, rv.append r3, q3⟩
  unfold PySem.W.StarOf notIterableAtAll
  exact wpAny_bind (wpAny_specialOf (T := "str") (v := .str (S l) tk) rfl PySem.F.slot_str_iter.lookup (wpAny_pure ⟨rfl, z⟩))
end
end Vf

set_option maxRecDepth 100000
set_option maxHeartbeats 4000000
namespace Vf
open PySem PySem.Spec PyProof.Rows L2 SX LamX
/-! ### (*a, b) = a tuple -/
theorem front_tup {prog : Program} {w : World} {A : Around} {E : Value → Shared → Prop} {s : Shared} {t : Addr} {xs : List Value} {x : Value} {Q : List Value → Shared → Prop} (hh : A.handled = none) (ht : IsTup s.heap t (xs ++ [x]).toArray) (hz : xs.length ≤ 10000)
    (hQ : ∀ (h' : Heap) (tk : Nat), (∀ b o, s.heap.get? b = some o → h'.get? b = some o) → Q [.ref h'.objs.size, x] { s with heap := h'.push { cls := .type "list", data := .seq xs.toArray }, toks := tk }) : wpAny (model prog w) A (unpackItems (.ref t) 2 (some 0)) Q E s := by
  have lt : t < s.heap.objs.size := let ⟨_, ho, _⟩ := ht; Heap.lt_size ho
  have nt : t ≠ s.heap.objs.size := Nat.ne_of_lt lt
  have sz : (xs ++ [x]).toArray.size = xs.length + 1 := by rw [List.size_toArray, List.length_append]; rfl
  unfold unpackItems notIterableAtAll
  refine wpAny_bind (wpAny_bind (wpAny_specialOf ht.typeIs slot_tuple_iter.lookup (wpAny_pure ?_)))
  simp only [Bool.false_eq_true, if_false]
  refine wpAny_bind (wpAny_holding (iter_tuple ht (wpAny_bind (wpAny_holding (show wpAny _ _ (pure []) _ _ _ from wpAny_pure ?_)))))
  rw [if_neg (show ¬ (([] : List Value).length < 0) from Nat.not_lt_zero _)]
  refine wpAny_bind (wpAny_holding (PySem.W.kun_collect (T := "tuple_iterator") (.inr (.inr (.inr rfl))) (Walks.tuple (A := A.in1) hh s.heap.objs.size t nt (xs ++ [x]).toArray) (fun j u st => st.1.typeIs) (k := 0) (Nat.zero_le _) ⟨⟨_, Heap.get?_push_size _ rfl, rfl, rfl⟩, ht.push _⟩
    (by rw [Heap.size_push]; exact Nat.lt_succ_self _) (by rw [Heap.size_push]; exact Nat.lt_succ_of_lt lt) (fun h2 tk hk => ?_) (by rw [sz, sizeLine_eq]; omega)))
  have k2 : ∀ b o, s.heap.get? b = some o → h2.get? b = some o := fun b o e => hk b o (Nat.ne_of_lt (Heap.lt_size e)) (Heap.get?_push_of_some _ e)
  have el : ((xs ++ [x]).toArray.toList.drop 0) = xs ++ [x] := by rw [List.drop_zero]
  rw [el]
  have ll : (xs ++ [x]).length = xs.length + 1 := by rw [List.length_append]; rfl
  rw [if_neg (show ¬ ((xs ++ [x]).length < 2 - 1 - 0) by rw [ll]; omega), ll, show xs.length + 1 - (2 - 1 - 0) = xs.length by omega, List.take_left, List.drop_left]
  exact wpAny_bind (wpAny_newObj_type (wpAny_pure (hQ h2 tk k2)) (by show xs.toArray.size ≤ _; rw [List.size_toArray, sizeLine_eq]; omega))
section
variable {X : Cx} {k : Nat} {n1 n2 : Expr} {t : TGs} {p pos : Pos}
def gStar0 (K : PySem.W.Frag) (t : TGs) : TG := fun v σ H Q => ∃ a xs x, v = .ref a ∧ SqT K H a (xs ++ [x]) ∧ xs.length ≤ 10000 ∧ ∀ D, H D = none → t [.ref D, x] σ (upd H D (.lst xs)) Q
theorem pg_star0 (hc : X.calm = true) (h : PGs X [n1, n2] t) (hl : (assignEach [.Starred n1 p, n2] X.env).length = 2 := by rfl) (hst : (assignEach [.Starred n1 p, n2] X.env).findIdx? (·.1) = some 0 := by rfl)
    (he : (assignEach [.Starred n1 p, n2] X.env).map (·.2) = (assignEach [n1, n2] X.env).map (·.2) := by rfl) : PG X (.Tuple [.Starred n1 p, n2] k pos) (gStar0 X.K t) := by
  refine ⟨fun pins s σ H v u Q I r hw => ?_⟩
  obtain ⟨a, xs, x, e1, hq, hz, hw⟩ := hw
  subst e1
  cases r
  obtain ⟨its, rv, ht, _⟩ := I.tuple hq
  obtain ⟨u1, u2, rfl, r1, r2⟩ := StX.vals_split rv
  obtain ⟨y, rfl, ry⟩ := vals1 r2
  have l1 := r1.length
  rw [assign_Tuple]
  refine wpAny_bind (wpAny_standAt ?_)
  unfold unpack
  rw [hl, hst]
  refine wpAny_bind (wpAny_holding (front_tup (I.ok.hd hc) ht (by omega) fun h' tk hk => ?_))
  rw [he]
  have I1 : Inv X pins σ H { s with heap := h', toks := tk } := I.kept (t' := tk) hk
  have I2 := I1.laid (a := h'.objs.size) (o := .lst xs) (h' := h'.push { cls := .type "list", data := .seq u1.toArray }) (t' := tk) (fun b o e => Heap.get?_push_of_some _ e) (Nat.le_refl _) ⟨by rw [sizeLine_eq]; omega, u1, 0, r1, Heap.get?_push_size _ rfl⟩
  exact h.run pins _ σ _ [.ref h'.objs.size, x] [.ref h'.objs.size, y] Q I2 (.cons rfl (.cons ry .nil)) (hw _ (I1.hok.fresh (Nat.le_refl _)))
end
end Vf

set_option maxRecDepth 100000
set_option maxHeartbeats 4000000
namespace Vf
open PySem PySem.Spec PyProof.Rows L2 SX LamX
/-! ### zip while the tuple that was given out before stands -/
section
variable {prog : Program} {w : World} {A : Around} {E : Value → Shared → Prop} {s : Shared} {z TI TO i1 i2 T : Addr} {f : Bool} {oT : Obj} {fp1 fp2 : List Addr} {n1 n2 i : Nat} {P1 P2 : Nat → Value → Prop} {St1 St2 : Nat → Heap → Prop}
theorem zipH_item {Q : Value → Shared → Prop} (S : ZipSep2 z TI TO i1 i2 fp1 fp2) (D1 : Draws prog w A i1 fp1 n1 P1 St1) (D2 : Draws prog w A i2 fp2 n2 P2 St2)
    (hz : IsZipHeld s.heap z TI TO T f) (hT : s.heap.get? T = some oT) (hTI : IsPair s.heap TI (.ref i1) (.ref i2)) (st1 : St1 i s.heap) (st2 : St2 i s.heap) (hl1 : i < n1) (hl2 : i < n2)
    (hQ : ∀ x1 x2 h' tk, P1 i x1 → P2 i x2 → IsZipHeld h' z TI TO T true → St1 (i + 1) h' → St2 (i + 1) h' → IsPair h' s.heap.objs.size x1 x2 → h'.objs.size = s.heap.objs.size + 1 →
      (∀ c o, c ≠ z → c ≠ i1 → c ≠ i2 → s.heap.get? c = some o → h'.get? c = some o) → Q (.ref s.heap.objs.size) { s with heap := h', toks := tk }) :
    wpAny (model prog w) A (Builtin.«zip.__next__» ⟨[.ref z], []⟩) (fun fin s' => ∃ v, fin = .done (.ret v) ∧ Q v s') E s := by
  obtain ⟨hp, g, d, tk0, os⟩ := s
  show wpAny _ _ (field (.ref z) 2 >>= _) _ _ _; refine wpAny_bind (wpAny_field hz rfl (x := .bool false) rfl ?_)
  show wpAny _ _ (field (.ref z) 3 >>= _) _ _ _; refine wpAny_bind (wpAny_field hz rfl (x := .ref TI) rfl (wpAny_bind (wpAny_seqItems hTI rfl ?_)))
  show wpAny _ _ (Builtin.SmallTypes.ownedTupleIsFree (.ref z) >>= _) _ _ _; refine wpAny_bind (wpAny_tupleHeld_zip hz hT fun h1 hz1 hs1 => ?_)
  replace hs1 : Heap.SameBut z hp h1 := hs1
  simp only [Bool.false_eq_true, if_false]; refine wpAny_bind ?_
  rw [← Array.forIn_toList]; simp only [List.forIn_cons, List.forIn_nil]; refine wpAny_bind (wpAny_bind (wpAny_holding ?_))
  show wpAny _ _ (Builtin.SmallTypes.nextOf (.ref i1) >>= _) _ _ ⟨h1, g, d, tk0, os⟩
  refine wpAny_bind (D1.item i _ _ _ hl1 (D1.over st1 hs1 S.zf1) fun x1 p1 tk1 hx1 sn1 hp1 => wpAny_pure (wpAny_pure ?_))
  replace hp1 : Heap.SameBut i1 h1 p1 := hp1
  refine wpAny_bind (wpAny_bind (wpAny_holding ?_)); show wpAny _ _ (Builtin.SmallTypes.nextOf (.ref i2) >>= _) _ _ ⟨p1, g, d, tk1, os⟩
  refine wpAny_bind (D2.item i _ _ _ hl2 (D2.over (D2.over st2 hs1 S.zf2) hp1 S.sep1_2) fun x2 p2 tk2 hx2 sn2 hp2 => wpAny_pure (wpAny_pure (wpAny_pure ?_)))
  replace hp2 : Heap.SameBut i2 p1 p2 := hp2
  show wpAny _ _ (newTuple [x1, x2] >>= _) _ _ ⟨p2, g, d, tk2, os⟩; refine wpAny_bind (wpAny_newTuple ?_)
  have hsz : p2.objs.size = hp.objs.size := by rw [hp2.1, hp1.1, hs1.1]
  have hz3 : IsZipHeld p2 z TI TO T true := hp2.extBut _ _ S.zi2 (hp1.extBut _ _ S.zi1 hz1)
  have hk : ∀ c o, c ≠ z → c ≠ i1 → c ≠ i2 → hp.get? c = some o → p2.get? c = some o := fun c o c1 c2 c3 e => hp2.extBut _ _ c3 (hp1.extBut _ _ c2 (hs1.extBut _ _ c1 e))
  have j1 : St1 (i + 1) p2 := D1.over sn1 hp2 S.sep2_1
  refine wpAny_pure ⟨_, rfl, ?_⟩
  show Q (.ref p2.objs.size) ⟨p2.push { cls := .type "tuple", data := .seq #[x1, x2] }, g, d, tk2, os⟩
  have a1 : IsPair (p2.push { cls := .type "tuple", data := .seq #[x1, x2] }) p2.objs.size x1 x2 := Heap.get?_push_size _ rfl
  have a2 : (p2.push { cls := .type "tuple", data := .seq #[x1, x2] }).objs.size = p2.objs.size + 1 := Heap.size_push ..
  rw [hsz] at a1 a2 ⊢
  exact hQ x1 x2 _ tk2 hx1 hx2 (Heap.get?_push_of_some _ hz3) (D1.frame _ _ _ j1 fun _ _ _ e => Heap.get?_push_of_some _ e) (D2.frame _ _ _ sn2 fun _ _ _ e => Heap.get?_push_of_some _ e) a1 a2 fun c o c1 c2 c3 e => Heap.get?_push_of_some _ (hk c o c1 c2 c3 e)
theorem zipH_end {Q : Fin → Shared → Prop} (S : ZipSep2 z TI TO i1 i2 fp1 fp2) (D1 : Draws prog w A i1 fp1 n1 P1 St1) (D2 : Draws prog w A i2 fp2 n2 P2 St2)
    (hz : IsZipHeld s.heap z TI TO T f) (hT : s.heap.get? T = some oT) (hTI : IsPair s.heap TI (.ref i1) (.ref i2)) (st1 : St1 i s.heap) (st2 : St2 i s.heap) (h12 : i = n1 ∨ (i < n1 ∧ i = n2))
    (hE : ∀ h' tk e, (∀ c o, c ≠ z → c ≠ i1 → c ≠ i2 → s.heap.get? c = some o → h'.get? c = some o) → (∃ o, h'.get? e = some o ∧ o.cls = .type "StopIteration") → E (.ref e) { s with heap := h', toks := tk }) :
    wpAny (model prog w) A (Builtin.«zip.__next__» ⟨[.ref z], []⟩) Q E s := by
  obtain ⟨hp, g, d, tk0, os⟩ := s
  show wpAny _ _ (field (.ref z) 2 >>= _) _ _ _; refine wpAny_bind (wpAny_field hz rfl (x := .bool false) rfl ?_)
  show wpAny _ _ (field (.ref z) 3 >>= _) _ _ _; refine wpAny_bind (wpAny_field hz rfl (x := .ref TI) rfl (wpAny_bind (wpAny_seqItems hTI rfl ?_)))
  show wpAny _ _ (Builtin.SmallTypes.ownedTupleIsFree (.ref z) >>= _) _ _ _; refine wpAny_bind (wpAny_tupleHeld_zip hz hT fun h1 hz1 hs1 => ?_)
  replace hs1 : Heap.SameBut z hp h1 := hs1
  simp only [Bool.false_eq_true, if_false]; refine wpAny_bind ?_
  rw [← Array.forIn_toList]; simp only [List.forIn_cons, List.forIn_nil]; refine wpAny_bind (wpAny_bind (wpAny_holding ?_))
  show wpAny _ _ (Builtin.SmallTypes.nextOf (.ref i1) >>= _) _ _ ⟨h1, g, d, tk0, os⟩
  rcases h12 with e1 | ⟨e1, e2⟩
  · subst e1
    refine wpAny_bind (D1.done _ _ _ (D1.over st1 hs1 S.zf1) fun h2 e hs2 he => ?_)
    exact hE h2 tk0 e (fun c o c1 c2 _ x => hs2 _ _ c2 (hs1.extBut _ _ c1 x)) he
  · subst e2
    refine wpAny_bind (D1.item i _ _ _ e1 (D1.over st1 hs1 S.zf1) fun x1 p1 tk1 hx1 sn1 hp1 => wpAny_pure (wpAny_pure ?_))
    replace hp1 : Heap.SameBut i1 h1 p1 := hp1
    refine wpAny_bind (wpAny_bind (wpAny_holding ?_)); show wpAny _ _ (Builtin.SmallTypes.nextOf (.ref i2) >>= _) _ _ ⟨p1, g, d, tk1, os⟩
    refine wpAny_bind (D2.done _ _ _ (D2.over (D2.over st2 hs1 S.zf2) hp1 S.sep1_2) fun h3 e hs3 he => ?_)
    exact hE h3 tk1 e (fun c o c1 c2 c3 x => hs3 _ _ c3 (hp1.extBut _ _ c2 (hs1.extBut _ _ c1 x))) he
end
end Vf

set_option maxRecDepth 100000
set_option maxHeartbeats 4000000
namespace Vf
open PySem PySem.Spec PyProof.Rows L2 SX LamX
/-! ### a list that is filled from an iterator whose state may grow -/
abbrev lsO (acc : Array Value) (c : Nat) : Obj := { cls := .type "list", dict := none, data := .seq acc c, slots := #[] }
structure Grow (M : Model) (A : Around) (I S : Addr) (n : Nat) (Iv : Array Value → Shared → Prop) (Fn : Array Value → Shared → Prop) : Prop where
  item : ∀ (acc : Array Value) (c : Nat) (s : Shared) (Q : Option Value → Shared → Prop) (E : Value → Shared → Prop), acc.size < n → Iv acc s → s.heap.get? S = some (lsO acc c) →
    (∀ v s', s'.heap.get? S = some (lsO acc c) → (∀ h, (∃ c', h.get? S = some (lsO (acc.push v) c')) → (∀ b o, b ≠ S → s'.heap.get? b = some o → h.get? b = some o) → Iv (acc.push v) { s' with heap := h }) → Q (some v) s') → wpAny M A (pyNext (.ref I)) Q E s
  done : ∀ (acc : Array Value) (c : Nat) (s : Shared) (Q : Option Value → Shared → Prop) (E : Value → Shared → Prop), acc.size = n → Iv acc s → s.heap.get? S = some (lsO acc c) →
    (∀ s', s'.heap.get? S = some (lsO acc c) → Fn acc s' → Q none s') → wpAny M A (pyNext (.ref I)) Q E s
theorem grow_loop {prog : Program} {w : World} {A : Around} {R : Result → Shared → Prop} {I S : Addr} {n : Nat} {Iv Fn : Array Value → Shared → Prop} (G : Grow (model prog w) A.in1 I S n Iv Fn) (hn : n ≤ sizeLine) (res : Value) :
    ∀ (k : Nat) (s : Shared) (acc : Array Value) (c : Nat), n - acc.size = k → acc.size ≤ n → Iv acc s → s.heap.get? S = some (lsO acc c) → (∀ s' acc' c', s'.heap.get? S = some (lsO acc' c') → acc'.size = n → Fn acc' s' → R (.ok (.ret res)) s') →
    codeAny (model prog w) A (.builtin "list.extend.loop" ⟨[.ref S, .ref I, res], []⟩) R s := by
  intro k
  induction k with
  | zero =>
    intro s acc c hk hi iv hS hR
    refine codeAny_builtin F.entry_extend_loop ?_; rw [Around.under_plainId F.plain_extend_loop _]; show wpAny _ A.in1 (pyNext (.ref I) >>= _) _ _ s
    exact wpAny_bind (G.done acc c s _ _ (by omega) iv hS fun s' hS' fn => wpAny_pure (hR s' acc c hS' (by omega) fn))
  | succ k ih =>
    intro s acc c hk hi iv hS hR
    refine codeAny_builtin F.entry_extend_loop ?_; rw [Around.under_plainId F.plain_extend_loop _]; show wpAny _ A.in1 (pyNext (.ref I) >>= _) _ _ s
    refine wpAny_bind (G.item acc c s _ _ (by omega) iv hS fun v s' hS' hI => ?_)
    show wpAny _ A.in1 (updateSeq S (·.push v) >>= _) _ _ _; refine wpAny_bind ?_
    have h2 := Heap.get?_update_self (Obj.mapSeq (·.push v)) hS' rfl
    refine wpAny_updateSeq hS' rfl (wpAny_pure ⟨plainId_quiet F.plain_extend_loop _, ih _ (acc.push v) _ (by rw [Array.size_push]; omega) (by rw [Array.size_push]; omega) (hI _ ⟨_, h2⟩ fun b o hb e => (Heap.get?_update_other _ _ (Ne.symm hb)).trans e) h2 hR⟩) (by omega) (by show (acc.push v).size ≤ sizeLine + 1; rw [Array.size_push]; omega)
end Vf

set_option maxRecDepth 100000
set_option maxHeartbeats 4000000
namespace Vf
open PySem PySem.Spec PyProof.Rows L2 SX LamX
theorem zip_no_len : typeLookup (.type "zip") "__len__" = pure none := am_miss_of_fast (by decide +kernel)
theorem zip_no_hint : typeLookup (.type "zip") "__length_hint__" = pure none := am_miss_of_fast (by decide +kernel)
theorem pyIter_zipT {prog : Program} {w : World} {A : Around} {E : Value → Shared → Prop} {s : Shared} {I : Addr} {Q : Value → Shared → Prop} (h : s.TypeIs (.ref I) "zip") (hQ : Q (.ref I) s) : wpAny (model prog w) A (pyIter (.ref I)) Q E s := by
  refine wpAny_pyIter_slot h F.slot_zip_iter (wpAny_call_entry F.slot_zip_iter h F.entry_zip_iter ?_ (F.args_zip_iter_1 _)); show wpAny _ _ (ret (.ref I)) _ _ s
  exact wpAny_pure ⟨_, rfl, "zip", _, h, F.slot_zip_next.lookup, hQ⟩
theorem collect_zip {prog : Program} {w : World} {A : Around} {E : Value → Shared → Prop} {s : Shared} {I : Addr} {n : Nat} {Iv Fn : Array Value → Shared → Prop} {Q : List Value → Shared → Prop} (hT : s.TypeIs (.ref I) "zip") (G : Grow (model prog w) A.in1 I s.heap.objs.size n Iv Fn) (hn : n ≤ sizeLine)
    (h0 : ∀ h, (∃ c, h.get? s.heap.objs.size = some (lsO #[] c)) → (∀ b o, s.heap.get? b = some o → h.get? b = some o) → Iv #[] { s with heap := h }) (hQ : ∀ s' acc, acc.size = n → Fn acc s' → Q acc.toList s') : wpAny (model prog w) A (collect (.ref I)) Q E s := by
  have hTk : ∀ {h : Heap}, (∀ b o, s.heap.get? b = some o → h.get? b = some o) → ({ s with heap := h } : Shared).TypeIs (.ref I) "zip" := fun k => by
    obtain ⟨o, ho, hc⟩ := hT
    exact ⟨o, k _ _ ho, hc⟩
  have hIn : s.heap.objs.size ≠ I := fun z => by
    obtain ⟨o, ho, _⟩ := hT
    exact absurd (Heap.lt_size ho) (by rw [z]; exact Nat.lt_irrefl _)
  have kp : ∀ b o, s.heap.get? b = some o → (s.heap.push { cls := .type "list", data := .seq ([] : List Value).toArray }).get? b = some o := fun b o e => Heap.get?_push_of_some _ e
  unfold collect
  refine wpAny_bind (wpAny_runValue (codeAny_builtin F.entry_proto_collect ?_)); rw [Around.under_plainId F.plain_proto_collect _]
  show wpAny _ A.in1 (newList [] >>= fun l => again (.builtin "list.__iadd__" ⟨[l, .ref I], []⟩)) _ _ s; refine wpAny_bind (wpAny_newObj_type (wpAny_pure ⟨plainId_quiet F.plain_list_iadd _, codeAny_builtin F.entry_list_iadd ?_⟩))
  rw [Around.under_plainId F.plain_list_iadd _]; show wpAny _ A.in1 (Builtin.List.listExtendWith (.ref s.heap.objs.size) (.ref I) (.ref s.heap.objs.size)) _ _ _; unfold Builtin.List.listExtendWith
  refine wpAny_bind (wpAny_typeOf (hTk kp) ?_)
  have e1 : Builtin.List.listSameRef (.ref s.heap.objs.size) (.ref I) = false := by simp [Builtin.List.listSameRef, hIn]
  have e2 : (Value.type "zip" == Value.type "list") = false := by decide
  have e3 : (Value.type "zip" == Value.type "tuple") = false := by decide
  simp only [e1, e2, e3, Bool.or_false, Bool.false_eq_true, if_false]
  refine wpAny_bind (pyIter_zipT (hTk kp) (wpAny_bind (wpAny_holding ?_)))
  unfold Builtin.List.listLengthHint
  refine wpAny_bind (wpAny_specialOf (hTk kp) zip_no_len ?_)
  show wpAny _ A.in1 (specialOf (Value.ref I) (Str.ofString "__length_hint__") >>= _) _ _ _; refine wpAny_bind (wpAny_specialOf (hTk kp) zip_no_hint (wpAny_pure ?_))
  show wpAny _ A.in1 (rule "list.extend.makes-room" >>= fun _ => Builtin.List.listTouch (.ref s.heap.objs.size) >>= fun _ => again (.builtin "list.extend.loop" ⟨[.ref s.heap.objs.size, .ref I, .ref s.heap.objs.size], []⟩)) _ _ _
  have g1 : (s.heap.push { cls := .type "list", data := .seq ([] : List Value).toArray }).get? s.heap.objs.size = some { cls := .type "list", data := .seq ([] : List Value).toArray } := Heap.get?_push_size _ rfl
  have g2 := Heap.get?_update_self (Obj.mapSeq (·.push Value.none)) g1 rfl
  have g3 := Heap.get?_update_self (Obj.mapSeq (·.pop)) g2 rfl
  refine wpAny_bind (wpAny_rule (wpAny_bind ?_)); show wpAny _ A.in1 (updateSeq s.heap.objs.size (·.push .none) >>= fun _ => updateSeq s.heap.objs.size (·.pop)) _ _ _
  refine wpAny_bind (wpAny_updateSeq g1 rfl (wpAny_updateSeq g2 rfl ?_))
  have up : ∀ (f : Obj → Obj) (h : Heap), (∀ b o, s.heap.get? b = some o → h.get? b = some o) → ∀ b o, s.heap.get? b = some o → (h.update s.heap.objs.size f).get? b = some o := fun f h q b o e =>
    (Heap.get?_update_other _ _ (Ne.symm (Nat.ne_of_lt (Heap.lt_size e)))).trans (q b o e)
  refine wpAny_pure ⟨plainId_quiet F.plain_extend_loop _, grow_loop G hn _ n _ #[] _ (Nat.sub_zero _) (Nat.zero_le _) (h0 _ ⟨_, g3⟩ (up _ _ (up _ _ kp))) g3 fun s' acc' c' hS' hz fn => ?_⟩
  show wpAny _ A (load s.heap.objs.size >>= _) _ _ s'; refine wpAny_bind (wpAny_load hS' ?_)
  exact wpAny_pure (hQ s' acc' hz fn)
end Vf

set_option maxRecDepth 100000
set_option maxHeartbeats 4000000
namespace Vf
open PySem PySem.Spec PyProof.Rows L2 SX LamX
section
variable {prog : Program} {w : World} {A : Around} {E : Value → Shared → Prop} {s : Shared} {I : Addr} {n : Nat} {Iv Fn : Array Value → Shared → Prop}
theorem new_tup_zip {Q1 : Value → Shared → Prop} (hT : s.TypeIs (.ref I) "zip") (G : Grow (model prog w) A.in1.in1 I s.heap.objs.size n Iv Fn) (hn : n ≤ sizeLine)
    (h0 : ∀ h, (∃ c, h.get? s.heap.objs.size = some (lsO #[] c)) → (∀ b o, s.heap.get? b = some o → h.get? b = some o) → Iv #[] { s with heap := h })
    (hQ : ∀ s' acc, acc.size = n → Fn acc s' → Q1 (.ref s'.heap.objs.size) { s' with heap := s'.heap.push { cls := .type "tuple", data := .seq acc } }) :
    codeAny (model prog w) A (.call (.builtin "tuple.__new__") ⟨[.type "tuple", .ref I], []⟩) (wants Q1 E) s := by
  refine codeAny_of_tree ?_; show wpAny _ A.in1 (do checkBuiltinCall "tuple.__new__" ⟨[.type "tuple", .ref I], []⟩; again (.builtin "tuple.__new__" ⟨[.type "tuple", .ref I], []⟩)) _ _ s
  refine wpAny_bind (wpAny_of_eq (F.newCall_tuple_1 _) (wpAny_pure ⟨plainId_quiet F.plain_tuple_new _, codeAny_builtin F.entry_tuple_new ?_⟩)); rw [Around.under_plainId F.plain_tuple_new _]
  have t1 := sub_tuple_self; have t2 := init_tuple_lookup; have t3 := madeHere_tuple
  wp_walk using wpAny_typeOf hT, collect_zip hT G hn h0
  intro s' acc hz fn
  show wpAny _ _ (Builtin.Tuple.tupleExact acc.toList.toArray >>= fun v => ret v) _ _ _; unfold Builtin.Tuple.tupleExact
  refine wpAny_bind (wpAny_newObj_type (wpAny_pure ?_) (by show acc.toList.toArray.size ≤ sizeLine; simp only [Array.toArray_toList]; rw [hz]; exact hn))
  have e : acc.toList.toArray = acc := by simp
  rw [e]; exact hQ s' acc hz fn
theorem call_tup_zip {Q : Value → Shared → Prop} (hT : s.TypeIs (.ref I) "zip") (G : Grow (model prog w) A.in1.in1.in1 I s.heap.objs.size n Iv Fn) (hn : n ≤ sizeLine)
    (h0 : ∀ h, (∃ c, h.get? s.heap.objs.size = some (lsO #[] c)) → (∀ b o, s.heap.get? b = some o → h.get? b = some o) → Iv #[] { s with heap := h })
    (hQ : ∀ s' acc, acc.size = n → Fn acc s' → Q (.ref s'.heap.objs.size) { s' with heap := s'.heap.push { cls := .type "tuple", data := .seq acc } }) : wpAny (model prog w) A (call (.type "tuple") [.ref I]) Q E s := by
  refine callType_codes (Q₁ := fun obj s₁ => s₁.TypeIs obj "tuple" ∧ Q obj s₁) F.called_tuple (F.typeCall_tuple_1 _) F.entry_object_init (new_tup_zip hT G hn h0 fun s' acc hz fn => ⟨⟨_, Heap.get?_push_size _ rfl, rfl⟩, hQ s' acc hz fn⟩) fun obj s₁ h₁ => ?_
  exact ⟨h₁.1, F.args_object_init_2 obj _, object_init_meets F.called_tuple.init.lookup F.called_tuple.made (by decide) prog w A.in1 _ s₁ ⟨h₁.1, rfl, h₁.2⟩⟩
end
end Vf

set_option maxRecDepth 100000
set_option maxHeartbeats 4000000
namespace Vf
open PySem PySem.Spec PyProof.Rows L2 SX LamX
section
variable {prog : Program} {w : World} {A : Around} {z TI TO i1 i2 S : Addr} {fp1 fp2 : List Addr} {n1 n2 : Nat} {P1 P2 : Nat → Value → Prop} {St1 St2 : Nat → Heap → Prop}
/-- what stands while pairs are put behind one another -/
structure ZIv (z TI TO i1 i2 S : Addr) (P1 P2 : Nat → Value → Prop) (St1 St2 : Nat → Heap → Prop) (s0 : Shared) (acc : Array Value) (s : Shared) : Prop where
  gs : s.gens = s0.gens
  dr : s.drawn = s0.drawn
  os : s.os = s0.os
  ti : IsPair s.heap TI (.ref i1) (.ref i2)
  t1 : St1 acc.size s.heap
  t2 : St2 acc.size s.heap
  zz : (IsZip s.heap z TI TO .none ∧ (∃ a b, IsPair s.heap TO a b)) ∨ ∃ T f oT, IsZipHeld s.heap z TI TO T f ∧ s.heap.get? T = some oT ∧ T ≠ z ∧ T ≠ i1 ∧ T ≠ i2 ∧ T ≠ S
  el : ∀ (j : Nat) (v : Value), acc[j]? = some v → ∃ T x1 x2, v = .ref T ∧ P1 j x1 ∧ P2 j x2 ∧ IsPair s.heap T x1 x2 ∧ S < T
  nd : ∀ (i j : Nat) (T : Addr), acc[i]? = some (.ref T) → acc[j]? = some (.ref T) → i = j
  kp : ∀ c o, c < S → c ≠ z → c ≠ TO → c ≠ i1 → c ≠ i2 → s0.heap.get? c = some o → s.heap.get? c = some o
theorem zip_grow (Z : ZipSep2 z TI TO i1 i2 fp1 fp2) (D1 : Draws prog w A.in1 i1 fp1 n1 P1 St1) (D2 : Draws prog w A.in1 i2 fp2 n2 P2 St2) (s0 : Shared) (hS : ∀ b ∈ z :: TI :: TO :: i1 :: i2 :: (fp1 ++ fp2), b < S) :
    Grow (model prog w) A z S (min n1 n2) (ZIv z TI TO i1 i2 S P1 P2 St1 St2 s0) (fun acc s => (∃ o, s.heap.get? TI = some o) ∧ s.gens = s0.gens ∧ s.drawn = s0.drawn ∧ s.os = s0.os ∧ (∀ (j : Nat) (v : Value), acc[j]? = some v → ∃ T x1 x2, v = .ref T ∧ P1 j x1 ∧ P2 j x2 ∧ IsPair s.heap T x1 x2 ∧ S < T) ∧ (∀ (i j : Nat) (T : Addr), acc[i]? = some (.ref T) → acc[j]? = some (.ref T) → i = j) ∧ ∀ c o, c < S → c ≠ z → c ≠ TO → c ≠ i1 → c ≠ i2 → s0.heap.get? c = some o → s.heap.get? c = some o) := by
  have lz := hS z (by simp)
  have lTI := hS TI (by simp)
  have lTO := hS TO (by simp)
  have l1 := hS i1 (by simp)
  have l2 := hS i2 (by simp)
  have nS : ∀ {b : Addr}, b < S → b ≠ S := fun h => Nat.ne_of_lt h
  have f1 : ∀ b ∈ fp1, b ≠ S := fun b hb => nS (hS b (by simp [hb]))
  have f2 : ∀ b ∈ fp2, b ≠ S := fun b hb => nS (hS b (by simp [hb]))
  -- behind one more item
  have more : ∀ (acc : Array Value) (c : Nat) (s : Shared) (h' : Heap) (tk : Nat) (x1 x2 : Value), ZIv z TI TO i1 i2 S P1 P2 St1 St2 s0 acc s → s.heap.get? S = some (lsO acc c) → P1 acc.size x1 → P2 acc.size x2 → St1 (acc.size + 1) h' → St2 (acc.size + 1) h' → IsPair h' s.heap.objs.size x1 x2 → (∃ T f oT, IsZipHeld h' z TI TO T f ∧ h'.get? T = some oT ∧ T ≠ z ∧ T ≠ i1 ∧ T ≠ i2 ∧ T ≠ S) →
      (∀ c o, c ≠ z → c ≠ TO → c ≠ i1 → c ≠ i2 → s.heap.get? c = some o → h'.get? c = some o) →
      ∀ h, (∃ c', h.get? S = some (lsO (acc.push (.ref s.heap.objs.size)) c')) → (∀ b o, b ≠ S → h'.get? b = some o → h.get? b = some o) → ZIv z TI TO i1 i2 S P1 P2 St1 St2 s0 (acc.push (.ref s.heap.objs.size)) { s with heap := h, toks := tk } := by
    intro acc c s h' tk x1 x2 iv hSs p1 p2 t1 t2 hp hz hk h _ hh
    have lS : S < s.heap.objs.size := Heap.lt_size hSs
    have kk : ∀ c o, c ≠ S → c ≠ z → c ≠ TO → c ≠ i1 → c ≠ i2 → s.heap.get? c = some o → h.get? c = some o := fun c o a0 a1 a2 a3 a4 e => hh c o a0 (hk c o a1 a2 a3 a4 e)
    refine ⟨iv.gs, iv.dr, iv.os, kk _ _ (nS lTI) Z.TIz Z.TITO Z.TIi1 Z.TIi2 iv.ti, ?_, ?_, .inr ?_, fun j v hj => ?_, fun i j T hi hj => ?_, fun c o a0 a1 a2 a3 a4 e => kk c o (nS a0) a1 a2 a3 a4 (iv.kp c o a0 a1 a2 a3 a4 e)⟩
    · rw [Array.size_push]; exact D1.frame _ _ _ t1 fun b hb o e => hh b o (f1 b hb) e
    · rw [Array.size_push]; exact D2.frame _ _ _ t2 fun b hb o e => hh b o (f2 b hb) e
    · obtain ⟨T, f, oT, g1, g2, g3, g4, g5, g6⟩ := hz
      exact ⟨T, f, oT, hh _ _ (nS lz) g1, hh _ _ g6 g2, g3, g4, g5, g6⟩
    · rw [Array.getElem?_push] at hj
      split at hj
      · rename_i e
        cases hj
        exact ⟨_, x1, x2, rfl, by rw [e]; exact p1, by rw [e]; exact p2, hh _ _ (Nat.ne_of_gt lS) hp, lS⟩
      · obtain ⟨T, y1, y2, e, q1, q2, q3, q4⟩ := iv.el j v hj
        have ne : ∀ {b : Addr}, b < S → T ≠ b := fun h => Nat.ne_of_gt (Nat.lt_trans h q4)
        exact ⟨T, y1, y2, e, q1, q2, kk _ _ (Nat.ne_of_gt q4) (ne lz) (ne lTO) (ne l1) (ne l2) q3, q4⟩
    · have old : ∀ {i : Nat}, acc[i]? = some (.ref T) → T < s.heap.objs.size := fun h => by
        obtain ⟨T', y1, y2, e, _, _, q3, _⟩ := iv.el _ _ h
        cases e
        exact Heap.lt_size q3
      rw [Array.getElem?_push] at hi hj
      split at hi <;> split at hj
      · omega
      · cases hi; exact absurd (old hj) (Nat.lt_irrefl _)
      · cases hj; exact absurd (old hi) (Nat.lt_irrefl _)
      · exact iv.nd i j T hi hj
  refine ⟨fun acc c s Q E hlt iv hSs hQ => ?_, fun acc c s Q E hn iv hSs hQ => ?_⟩
  · have hl1 : acc.size < n1 := Nat.lt_of_lt_of_le hlt (Nat.min_le_left ..)
    have hl2 : acc.size < n2 := Nat.lt_of_lt_of_le hlt (Nat.min_le_right ..)
    rcases iv.zz with ⟨hz, a, b, hTO⟩ | ⟨T, f, oT, hz, hT, g3, g4, g5, g6⟩
    · refine wpAny_pyNext_zipD2_item Z D1 D2 hz iv.ti hTO iv.t1 iv.t2 hl1 hl2 fun x1 x2 h' tk p1 p2 b1 b2 t1 t2 hp hsz hk => ?_
      have lS : S < s.heap.objs.size := Heap.lt_size hSs
      have sz : s.heap.objs.size < h'.objs.size := by rw [hsz]; exact Nat.lt_succ_self _
      have ne : ∀ {b : Addr}, b < S → s.heap.objs.size ≠ b := fun h => Nat.ne_of_gt (Nat.lt_trans h lS)
      exact hQ _ ⟨h', s.gens, s.drawn, tk, s.os⟩ (hk _ _ (Ne.symm (nS lz)) (Ne.symm (nS lTO)) (Ne.symm (nS l1)) (Ne.symm (nS l2)) hSs) (more acc c s h' tk x1 x2 iv hSs p1 p2 t1 t2 hp ⟨s.heap.objs.size, false, _, b1, hp, ne lz, ne l1, ne l2, Nat.ne_of_gt lS⟩ hk)
    · have hTy : s.TypeIs (.ref z) "zip" := ⟨_, hz, rfl⟩
      unfold pyNext
      refine wpAny_bind (wpAny_attempt (wpAny_callSpecial?_slot (name := Str.ofString "__next__") hTy F.slot_zip_next (wpAny_call_entry F.slot_zip_next hTy F.entry_zip_next (zipH_item Z D1 D2 hz hT iv.ti iv.t1 iv.t2 hl1 hl2 fun x1 x2 h' tk p1 p2 b1 t1 t2 hp hsz hk => wpAny_pure ?_) (F.args_zip_next_1 _))))
      exact hQ _ ⟨h', s.gens, s.drawn, tk, s.os⟩ (hk _ _ (Ne.symm (nS lz)) (Ne.symm (nS l1)) (Ne.symm (nS l2)) hSs) (more acc c s h' tk x1 x2 iv hSs p1 p2 t1 t2 hp ⟨T, true, oT, b1, hk _ _ g3 g4 g5 hT, g3, g4, g5, g6⟩ fun c o a1 _ a3 a4 e => hk c o a1 a3 a4 e)
  · have fin : ∀ (h' : Heap) (tk : Nat), (∀ c o, c ≠ z → c ≠ TO → c ≠ i1 → c ≠ i2 → s.heap.get? c = some o → h'.get? c = some o) → Q none ⟨h', s.gens, s.drawn, tk, s.os⟩ := fun h' tk hk => by
      refine hQ _ (hk _ _ (Ne.symm (nS lz)) (Ne.symm (nS lTO)) (Ne.symm (nS l1)) (Ne.symm (nS l2)) hSs) ⟨⟨_, hk _ _ Z.TIz Z.TITO Z.TIi1 Z.TIi2 iv.ti⟩, iv.gs, iv.dr, iv.os, fun j v hj => ?_, iv.nd, fun c o a0 a1 a2 a3 a4 e => hk c o a1 a2 a3 a4 (iv.kp c o a0 a1 a2 a3 a4 e)⟩
      obtain ⟨T, y1, y2, e, q1, q2, q3, q4⟩ := iv.el j v hj
      have ne : ∀ {b : Addr}, b < S → T ≠ b := fun h => Nat.ne_of_gt (Nat.lt_trans h q4)
      exact ⟨T, y1, y2, e, q1, q2, hk _ _ (ne lz) (ne lTO) (ne l1) (ne l2) q3, q4⟩
    have he : acc.size = n1 ∨ (acc.size < n1 ∧ acc.size = n2) := by omega
    rcases iv.zz with ⟨hz, a, b, hTO⟩ | ⟨T, f, oT, hz, hT, g3, g4, g5, g6⟩
    · exact wpAny_pyNext_zipD2_end Z D1 D2 hz iv.ti hTO iv.t1 iv.t2 (by omega) (by omega) (by omega) fin
    · have hTy : s.TypeIs (.ref z) "zip" := ⟨_, hz, rfl⟩
      unfold pyNext
      refine wpAny_bind (wpAny_attempt (wpAny_callSpecial?_slot (name := Str.ofString "__next__") hTy F.slot_zip_next (wpAny_call_entry F.slot_zip_next hTy F.entry_zip_next (zipH_end Z D1 D2 hz hT iv.ti iv.t1 iv.t2 he fun h' tk e hk hx => ?_) (F.args_zip_next_1 _))))
      obtain ⟨o, ho, hc⟩ := hx
      exact wpAny_bind (wpAny_isInstance (T := "StopIteration") (b := true) ⟨o, ho, hc⟩ isSubtype_stop (wpAny_pure (fin h' tk fun c o a1 _ a3 a4 e => hk c o a1 a3 a4 e)))
end
end Vf

set_option maxRecDepth 100000
set_option maxHeartbeats 4000000
namespace Vf
open PySem PySem.Spec PyProof.Rows L2 SX LamX
/-! ### several objects laid at once -/
def ovr (H : Hp) (N : Addr → Option HO) : Hp := fun b => match N b with
  | some o => some o
  | none => H b
section
variable {X : Cx} {pins : List (Addr × Obj)} {σ : L2.St} {H : Hp} {s : Shared} {h' : Heap} {t' : Nat} {N : Addr → Option HO}
theorem ovr_some {b : Addr} {o : HO} (h : N b = some o) : ovr H N b = some o := by unfold ovr; rw [h]
theorem ovr_none {b : Addr} (h : N b = none) : ovr H N b = H b := by unfold ovr; rw [h]
theorem inv_laids (I : Inv X pins σ H s) (k : ∀ b u, s.heap.get? b = some u → h'.get? b = some u) (hN : ∀ b o, N b = some o → s.heap.objs.size ≤ b) (new : ∀ b o, N b = some o → ObjOk X.prog X.w (ovr H N) h' b o) : Inv X pins σ (ovr H N) { s with heap := h', toks := t' } := by
  have old : ∀ {b : Addr}, b < s.heap.objs.size → N b = none := fun {b} h => by
    cases e : N b with
    | none => rfl
    | some o => exact absurd (hN b o e) (Nat.not_le.mpr h)
  have trk : ∀ {b : Addr} {o : HO}, H b = some o → ovr H N b = some o := fun {b o} e => by
    rw [ovr_none (old (I.hok b o e).lt)]; exact e
  refine I.un ⟨fun b u q _ _ _ => k b u q, fun b u q _ _ _ => ⟨u.slots, k b u q⟩, fun b u q n _ => by rw [ovr_none (old (Heap.lt_size q))]; exact n, fun b u q _ => ⟨u, k b u q⟩, fun b xs q => trk q, fun b u xs q => trk q, fun b ps q => ⟨#[], by rw [trk q]; simp⟩⟩ fun b o e => ?_
  cases eN : N b with
  | some o' =>
    rw [ovr_some eN] at e
    cases e
    exact new b _ eN
  | none =>
    rw [ovr_none eN] at e
    exact (I.hok b o e).stay (fun c v _ q => k c v q) (fun c q => trk q) fun c xs q => trk q
theorem ovr_same (I : Inv X pins σ H s) (hN : ∀ b o, N b = some o → s.heap.objs.size ≤ b) : Same H (ovr H N) := fun b o e => by
  have : N b = none := by
    cases eN : N b with
    | none => rfl
    | some o' => exact absurd (hN b o' eN) (Nat.not_le.mpr (I.hok b o e).lt)
  rw [ovr_none this]; exact e
end
end Vf

set_option maxRecDepth 100000
set_option maxHeartbeats 4000000
namespace Vf
open PySem PySem.Spec PyProof.Rows L2 SX LamX
/-! ### tuple(zip(a, text)), a a list or a text -/
def SrcOk (prog : Program) (w : World) (v : Value) (s : Shared) (n : Nat) (Pz : Nat → Value → Prop) : Prop := ∃ (o : Obj) (Hh : Heap → Prop) (fp : List Addr) (St : Addr → Nat → Heap → Prop), Begins v o Hh ∧ Hh s.heap ∧ (∀ b ∈ fp, b < s.heap.objs.size) ∧
  (∀ (A : Around) (it : Addr), A.handled = none → s.heap.objs.size ≤ it → Draws prog w A it (it :: fp) n Pz (St it)) ∧ ∀ it h, h.get? it = some o → Hh h → St it 0 h
theorem src_list {prog : Program} {w : World} {s : Shared} {l : Addr} {items : Array Value} (h : s.heap.IsList l items) : SrcOk prog w (.ref l) s items.size (fun i v => items[i]? = some v) := by
  have lt : l < s.heap.objs.size := let ⟨_, ho, _⟩ := h; Heap.lt_size ho
  exact ⟨_, _, [l], fun it i h => h.IsListIter it l i ∧ h.IsList l items, begins_list l items, h, fun b hb => by rw [List.mem_singleton.mp hb]; exact lt, fun A it hh hi => .list hh it l (Nat.ne_of_lt (Nat.lt_of_lt_of_le lt hi)) items, fun it h e hl => ⟨⟨_, e, rfl, rfl⟩, hl⟩⟩
theorem src_text {prog : Program} {w : World} {s : Shared} {x : Str} {t : Tok} : SrcOk prog w (.str x t) s x.cps.size (fun i v => ∃ c u, x.cps[i]? = some c ∧ v = .str ⟨#[c]⟩ u) :=
  ⟨_, _, [], fun it i h => h.IsStrIter it (strIterType x) x t i, begins_text x t, trivial, (fun _ z => nomatch z), fun A it hh hi => .text hh it x t, fun it h e _ => ⟨_, e, rfl, rfl⟩⟩
theorem tupz_run {prog : Program} {w : World} {A : Around} {E : Value → Shared → Prop} {s : Shared} {v1 v2 : Value} {n1 n2 : Nat} {P1 P2 : Nat → Value → Prop} {Q' : Value → Shared → Prop} {Q : Value → Shared → Prop} (hh : A.handled = none) (S1 : SrcOk prog w v1 s n1 P1) (S2 : SrcOk prog w v2 s n2 P2) (hn : min n1 n2 ≤ sizeLine)
    (hN : ∀ u s', wpAny (model prog w) A (call (.type "tuple") [u]) Q E s' → Q' u s')
    (hQ : ∀ (b : Addr) (h' : Heap) (tk : Nat) (acc : Array Value), (∀ c o, s.heap.get? c = some o → h'.get? c = some o) → acc.size = min n1 n2 → h'.get? b = some { cls := .type "tuple", data := .seq acc } → s.heap.objs.size ≤ b →
      (∀ (j : Nat) (v : Value), acc[j]? = some v → ∃ T x1 x2, v = .ref T ∧ P1 j x1 ∧ P2 j x2 ∧ IsPair h' T x1 x2 ∧ s.heap.objs.size ≤ T ∧ T ≠ b) → (∀ (i j : Nat) (T : Addr), acc[i]? = some (.ref T) → acc[j]? = some (.ref T) → i = j) → Q (.ref b) { s with heap := h', toks := tk }) :
    wpAny (model prog w) A (call (.type "zip") [v1, v2]) Q' E s := by
  obtain ⟨o1, Hh1, fp1, St1, B1, a1, b1, d1, e1⟩ := S1
  obtain ⟨o2, Hh2, fp2, St2, B2, a2, b2, d2, e2⟩ := S2
  refine zip_begins2 B1 B2 a1 a2 fun h hz hTI hTO g1 g2 hsz hk => hN _ _ ?_
  generalize hNz : s.heap.objs.size = N at *
  have Z := zip_sep2 b1 b2
  have D1 := d1 A.in1.in1.in1.in1 N hh (Nat.le_refl _)
  have D2 := d2 A.in1.in1.in1.in1 (N + 1) hh (Nat.le_succ _)
  have lt : ∀ b ∈ (N + 4) :: (N + 2) :: (N + 3) :: N :: (N + 1) :: ((N :: fp1) ++ ((N + 1) :: fp2)), b < N + 5 := fun b hb => by
    simp only [List.mem_cons, List.mem_append, List.cons_append] at hb
    have g : ∀ k : Nat, k < 5 → b = N + k → b < N + 5 := fun k hk e => by rw [e]; exact Nat.add_lt_add_left hk N
    have f : b < N → b < N + 5 := fun e => Nat.lt_of_lt_of_le e (Nat.le_add_right ..)
    rcases hb with e | e | e | e | e | e | e | e | e
    · exact g 4 (by decide) e
    · exact g 2 (by decide) e
    · exact g 3 (by decide) e
    · exact g 0 (by decide) e
    · exact g 1 (by decide) e
    · exact g 0 (by decide) e
    · exact f (b1 b e)
    · exact g 1 (by decide) e
    · exact f (b2 b e)
  have hT : ({ s with heap := h } : Shared).TypeIs (.ref (N + 4)) "zip" := ⟨_, hz, rfl⟩
  have st1 : St1 N 0 h := e1 N h g1 (B1.keeps _ _ a1 hk)
  have st2 : St2 (N + 1) 0 h := e2 (N + 1) h g2 (B2.keeps _ _ a2 hk)
  have G := zip_grow (A := A.in1.in1.in1) (S := N + 5) Z D1 D2 { s with heap := h } lt
  refine call_tup_zip (s := { s with heap := h }) hT (by rw [show ({ s with heap := h } : Shared).heap.objs.size = N + 5 from hsz]; exact G) hn (fun h2 _ hk2 => ?_) fun s' acc hz2 fn => ?_
  · exact ⟨rfl, rfl, rfl, hk2 _ _ hTI, D1.frame _ _ _ st1 fun b _ o e => hk2 b o e, D2.frame _ _ _ st2 fun b _ o e => hk2 b o e, .inl ⟨hk2 _ _ hz, _, _, hk2 _ _ hTO⟩, fun j v hj => by simp at hj, fun i j T hi => by simp at hi, fun c o _ _ _ _ _ e => hk2 c o e⟩
  · obtain ⟨⟨oT, q0⟩, q1, q2, q3, q4, q5, q6⟩ := fn
    obtain ⟨h3, g, d, tk, os⟩ := s'
    have q1 : g = s.gens := q1
    have q2 : d = s.drawn := q2
    have q3 : os = s.os := q3
    subst q1 q2 q3
    have kp : ∀ c o, s.heap.get? c = some o → h3.get? c = some o := fun c o e => by
      have l := Heap.lt_size e
      rw [hNz] at l
      have nn : ∀ k : Nat, c ≠ N + k := fun k => Nat.ne_of_lt (Nat.lt_of_lt_of_le l (Nat.le_add_right ..))
      exact q6 c o (Nat.lt_of_lt_of_le l (Nat.le_add_right ..)) (nn 4) (nn 3) (nn 0) (nn 1) (hk c o e)
    have nb : N ≤ h3.objs.size := Nat.le_trans (Nat.le_add_right N 2) (Nat.le_of_lt (Heap.lt_size q0))
    exact hQ h3.objs.size _ tk acc (fun c o e => Heap.get?_push_of_some _ (kp c o e)) hz2 (Heap.get?_push_size _ rfl) nb (fun j v hj => by
      obtain ⟨T, x1, x2, e, p1, p2, p3, p4⟩ := q4 j v hj
      exact ⟨T, x1, x2, e, p1, p2, Heap.get?_push_of_some _ p3, Nat.le_trans (Nat.le_add_right N 5) (Nat.le_of_lt p4), Nat.ne_of_lt (Heap.lt_size p3)⟩) q5
end Vf

set_option maxRecDepth 100000
set_option maxHeartbeats 4000000
namespace Vf
open PySem PySem.Spec PyProof.Rows L2 SX LamX
def tTupZ (K : PySem.W.Frag) (ta : TA) : TE := fun σ H Q => ta σ H fun vs H1 => ∃ (x : V) (l2 : List Nat) (us : List V), vs = [x, .str (S l2)] ∧ ((∃ a, x = .ref a ∧ SqL K H1 a us) ∨ ∃ l1 : List Nat, x = .str (S l1) ∧ us = l1.map fun c => V.str (S [c])) ∧ us.length ≤ 100000 ∧ l2.length ≤ 100000 ∧
  ∀ (H' : Hp) (b : Addr) (ps : List V), Same H1 H' → H' b = some (.tup ps) → ps.length = min us.length l2.length → (∀ (j : Nat) (v : V), ps[j]? = some v → ∃ T u c, v = .ref T ∧ us[j]? = some u ∧ l2[j]? = some c ∧ H' T = some (.tup [u, .str (S [c])])) → Q (.ref b) H'
def refV : Value → V
  | .ref T => .ref T
  | _ => .non
section
variable {X : Cx}
open Classical in
noncomputable def newsOf (acc : Array Value) (us : List V) (l2 : List Nat) (b : Addr) : Addr → Option HO := fun c => if c = b then some (.tup (acc.toList.map refV)) else if h : ∃ j : Nat, acc[j]? = some (Value.ref c) then some (.tup [(us[h.choose]?).getD .non, .str (S [(l2[h.choose]?).getD 0])]) else none
theorem pe_tupZip {e1 e2 : Expr} {t : TA} {p p2 pos pos2 : Pos} (hc : X.calm = true) (hg : Gl X "tuple") (hm : X.mg "tuple" = none) (hg2 : Gl X "zip") (hm2 : X.mg "zip" = none) (ha : PA X [e1, e2] t)
    (hs : starEach [e1, e2] X.env = (false, eval e1 X.env) :: starEach [e2] X.env := by rfl) (hpl : (backTo pos2 (starEach [e2] X.env)).any (·.1) = false := by rfl)
    (hs2 : starEach [.Call (.Name "zip" p2) [e1, e2] [] pos2] X.env = (false, eval (.Call (.Name "zip" p2) [e1, e2] [] pos2) X.env) :: starEach [] X.env := by rfl) :
    PE X (.Call (.Name "tuple" p) [.Call (.Name "zip" p2) [e1, e2] [] pos2] [] pos) (tTupZ X.K t) := by
  refine ⟨fun pins s σ H Q I h => ?_⟩
  refine Call_ (ld_blt I hg hm boot_tuple (PyProof.Rows.callWith_type1 (args_cons (Call_ (ld_blt I hg2 hm2 PyProof.Rows.boot_zip (PyProof.Rows.callWith_type1 (thn (ha.run pos2 pins s σ H _ I h) fun ws s1 ⟨vs, H1, I1, r1, q1⟩ => ?_) hs hpl))) hs2) hs2 rfl))
  obtain ⟨x, l2, us, ev, hx, b1, b2, q⟩ := q1
  subst ev
  cases r1 with
  | @cons _ u1 _ _ ra rt =>
  obtain ⟨u2, rfl, rb⟩ := vals1 rt
  obtain ⟨tk2, rfl⟩ := rb
  have z2 : (S l2).cps.size = l2.length := List.size_toArray
  obtain ⟨n1, P1, S1, e1, hP⟩ : ∃ (n1 : Nat) (P1 : Nat → Value → Prop), SrcOk X.prog X.w u1 s1 n1 P1 ∧ n1 = us.length ∧ ∀ j v, P1 j v → ∃ u, us[j]? = some u ∧ RelV u v := by
    rcases hx with ⟨a, rfl, hq⟩ | ⟨l1, rfl, rfl⟩
    · obtain rfl : u1 = Value.ref a := ra
      obtain ⟨its, rv, p', hz⟩ := I1.list hq
      have rl := rv.length
      refine ⟨_, _, src_list p'.isList, by rw [List.size_toArray]; exact rl.symm, fun j v hj => ?_⟩
      have hj : its[j]? = some v := (List.getElem?_toArray ..).symm.trans hj
      have hl : j < us.length := by rw [rl]; exact (List.getElem?_eq_some_iff.mp hj).1
      obtain ⟨v', e', r'⟩ := rv.get (List.getElem?_eq_getElem hl)
      rw [hj] at e'
      cases e'
      exact ⟨_, List.getElem?_eq_getElem hl, r'⟩
    · obtain ⟨tk1, rfl⟩ := ra
      refine ⟨_, _, src_text, by rw [List.length_map]; exact List.size_toArray, fun j v hj => ?_⟩
      obtain ⟨c, u, hc', rfl⟩ := hj
      have e' : l1[j]? = some c := (List.getElem?_toArray ..).symm.trans hc'
      exact ⟨.str (S [c]), by rw [List.getElem?_map, e']; rfl, u, rfl⟩
  subst e1
  refine tupz_run (I1.ok.hd hc) S1 src_text (by rw [z2, sizeLine_eq]; omega) (fun u s' h => args_nil h) fun b h' tk acc hk hz hb hbn hel hnd => ?_
  rw [z2] at hz
  have ac : ∀ {j : Nat} {v : Value}, acc.toList[j]? = some v → acc[j]? = some v := fun h => by rw [← Array.getElem?_toList]; exact h
  have isz : acc.toList.length = min us.length l2.length := by rw [Array.length_toList]; exact hz
  -- what each pair is
  have pr : ∀ (j : Nat) (T : Addr), acc[j]? = some (Value.ref T) → ∃ u c x1 x2, us[j]? = some u ∧ l2[j]? = some c ∧ RelV u x1 ∧ RelV (.str (S [c])) x2 ∧ IsPair h' T x1 x2 ∧ s1.heap.objs.size ≤ T ∧ T ≠ b := fun j T hj => by
    obtain ⟨T', x1, x2, e, p1, ⟨c, u, hc', rfl⟩, p3, p4, p5⟩ := hel j _ hj
    cases e
    obtain ⟨u', a1, a2⟩ := hP j x1 p1
    exact ⟨u', c, x1, _, a1, (List.getElem?_toArray ..).symm.trans hc', a2, ⟨u, rfl⟩, p3, p4, p5⟩
  have nw : ∀ (j : Nat) (T : Addr) (u : V) (c : Nat), acc[j]? = some (Value.ref T) → us[j]? = some u → l2[j]? = some c → newsOf acc us l2 b T = some (.tup [u, .str (S [c])]) := fun j T u c hj hu hc' => by
    obtain ⟨_, _, _, _, _, _, _, _, _, _, n⟩ := pr j T hj
    have hx : ∃ j : Nat, acc[j]? = some (Value.ref T) := ⟨j, hj⟩
    have ej : hx.choose = j := hnd _ _ T hx.choose_spec hj
    unfold newsOf
    rw [if_neg n, dif_pos hx, ej, hu, hc']
    rfl
  have nb : newsOf acc us l2 b b = some (.tup (acc.toList.map refV)) := by unfold newsOf; rw [if_pos rfl]
  have back : ∀ (T : Addr) (o : HO), newsOf acc us l2 b T = some o → (T = b ∧ o = .tup (acc.toList.map refV)) ∨ (∃ (j : Nat) (u : V) (c : Nat), acc[j]? = some (Value.ref T) ∧ us[j]? = some u ∧ l2[j]? = some c ∧ o = .tup [u, .str (S [c])]) := fun T o h => by
    by_cases e : T = b
    · subst e
      rw [nb] at h
      exact .inl ⟨rfl, (Option.some.inj h).symm⟩
    · by_cases hx : ∃ j : Nat, acc[j]? = some (Value.ref T)
      · obtain ⟨j, hj⟩ := hx
        obtain ⟨u, c, _, _, a1, a2, _⟩ := pr j T hj
        rw [nw j T u c hj a1 a2] at h
        exact .inr ⟨j, u, c, hj, a1, a2, (Option.some.inj h).symm⟩
      · unfold newsOf at h
        rw [if_neg e, dif_neg hx] at h
        cases h
  have hN : ∀ T o, newsOf acc us l2 b T = some o → s1.heap.objs.size ≤ T := fun T o h => by
    rcases back T o h with ⟨rfl, _⟩ | ⟨j, u, c, hj, _⟩
    · exact hbn
    · obtain ⟨_, _, _, _, _, _, _, _, _, p4, _⟩ := pr j T hj
      exact p4
  refine ⟨.ref b, ovr H1 (newsOf acc us l2 b), inv_laids I1 hk hN fun T o h => ?_, rfl, q _ b (acc.toList.map refV) (ovr_same I1 hN) (ovr_some nb) (by rw [List.length_map]; exact isz) fun j v hj => ?_⟩
  · rcases back T o h with ⟨rfl, rfl⟩ | ⟨j, u, c, hj, hu, hc', rfl⟩
    · refine ⟨by rw [List.length_map, isz, sizeLine_eq]; omega, acc.toList, vals_get (by rw [List.length_map]) fun i x y hx hy => ?_, by rw [Array.toArray_toList]; exact ⟨_, hb, rfl, _, rfl⟩⟩
      rw [List.getElem?_map, hy] at hx
      obtain ⟨T', x1, x2, e, _⟩ := hel i y (ac hy)
      subst e
      cases hx
      rfl
    · obtain ⟨u', c', x1, x2, a1, a2, a3, a4, a5, _⟩ := pr j T hj
      rw [hu] at a1
      rw [hc'] at a2
      cases a1; cases a2
      exact ⟨by rw [sizeLine_eq]; show 2 ≤ _; omega, [x1, x2], .cons a3 (.cons a4 .nil), ⟨_, a5, rfl, _, rfl⟩⟩
  · rw [List.getElem?_map] at hj
    obtain ⟨y, hy, rfl⟩ := Option.map_eq_some_iff.mp hj
    obtain ⟨T', x1, x2, e, _⟩ := hel j y (ac hy)
    subst e
    obtain ⟨u, c, _, _, a1, a2, _⟩ := pr j T' (ac hy)
    exact ⟨T', u, c, rfl, a1, a2, ovr_some (nw j T' u c (ac hy) a1 a2)⟩
end
end Vf

set_option maxRecDepth 100000
set_option maxHeartbeats 4000000
namespace Vf
open PySem PySem.Spec PyProof.Rows L2 SX
section
variable {P : Program} {w : World} {K : PySem.W.Frag} {mg : Str → Option Value} {base : Heap}
theorem ok_ReadingMachine_ended {f : Addr} {fd : FuncData} {q : Str} {CR CD CG CM : Addr} (me : Meth K CM "ended" f) (F : C8.Fun K "ended" q s_ReadingMachine_ended f fd) (b : Binds K fd ["self", "stand"] []) (T : Tx K w mg) (A0 : Ca K CR CD CG) (AM : Cm K CM) (C_Reader_read : C8.Met P w K mg base 3 CD "read" (sp_read P w K CR CD) []) : C8.Met P w K mg base 4 CM "ended" (sp_ended P w K CR CD CG CM) [] := by
  refine C8.met0 AM.iM.cl me F b sc_ReadingMachine_ended (fun vs H Q E h => ?_) (fun cdv A outer s H vs Q E hr h => ?_)
  · obtain ⟨_, _, _, _, _, _, _, rfl, _⟩ := h; rfl
  have hu := hu_of hr
  refine ⟨_, (pss_cons (ps_asg (pv 1) (pg_star0 (by rfl) (pgs_cons (pg_name (i := 2) sc_ReadingMachine_ended.nd rfl (Or.inl rfl)) (pgs_cons (pg_name (i := 3) sc_ReadingMachine_ended.nd rfl (Or.inl rfl)) pgs_nil))))
      (pss_one (ps_ret (pe_tupZip (by rfl) (by rfl) T.z_tuple (by rfl) T.z_zip (pa_cons (pv 3) (pa_cons (pe_ix ix_tup (C8.pe_mt C_Reader_read hr (by decide) (pe_fld (pe_fld (pv 0) rfl) rfl) (pa_cons (pe_callTy call_tuple_of (by rfl) T.z_tuple (by decide +kernel) (pa_cons (pv 2) pa_nil)) (pa_cons (pv 3) (pa_cons pe_bl pa_nil)))) pe_int (fun _ _ => rfl)) pa_nil)))))), ?_⟩

  obtain ⟨a, tg, fs, tx, v, m, wt, rfl, hrm, htg, G, hsd, hwl, q⟩ := h
  obtain ⟨dx, b0, ha, hb0⟩ := id hrm
  obtain ⟨b, rfl, hb, mo⟩ := hsd
  obtain ⟨dg, rt, wi, rd, hg, dd, bb, p, rs, hrd, hbb, hfd, hmm⟩ := htg
  have cl := AM.iM.cl
  have clG := A0.iG.cl
  refine ⟨_, rfl, b, [.int (modeI m).1, .int (modeI m).2.1, .int (modeI m).2.2], .str (S wt), rfl, SqT.of hb, by show 3 ≤ 10000; decide, fun D hD => ?_⟩
  refine ⟨_, _, rfl, _, _, rfl, rfl, ?_⟩
  have s1 := same1 hD (.lst [.int (modeI m).1, .int (modeI m).2.1, .int (modeI m).2.2])
  have hD1 : upd H D (.lst [.int (modeI m).1, .int (modeI m).2.1, .int (modeI m).2.2]) D = some (.lst [.int (modeI m).1, .int (modeI m).2.1, .int (modeI m).2.2]) := upd_same
  generalize upd H D (.lst [.int (modeI m).1, .int (modeI m).2.1, .int (modeI m).2.2]) = H1 at s1 hD1 ⊢
  refine ⟨_, rfl, _, rfl, a, CM, dx, _, _, rfl, s1 _ _ ha, cl, AM.m1, rfl, tg, CG, dg, _, _, rfl, s1 _ _ hg, clG, A0.g4, rfl, rd, dd, _, rfl, s1 _ _ hrd, rfl, _, rfl, D, _, rfl, .inl ⟨SqL.of hD1, fun l hl => ?_⟩⟩
  have s2 := same_new s1 hl (.tup [.int (modeI m).1, .int (modeI m).2.1, .int (modeI m).2.2])
  refine ⟨_, rfl, ?_⟩
  refine ⟨rd, dd, bb, p, l, rs, fs, modeI m, wt, true, rfl, s2 _ _ hrd, s2 _ _ hbb, hfd.kp (.of s2), hmm.kp (.of s2), SqT.of upd_same, by omega, G.ts, mo, fun H2 r mb m' pl ks s3 hr hmb hre hpl he => ?_⟩
  have epl : pl = wt.length := he.elim id fun z => by cases z.1
  subst epl
  have er := reach_end G mo hre
  rw [modeI_toMd] at er
  have ek : (rdM (fs.map ruOf) m wt).2 = ks := by rw [er]
  refine ⟨r, _, _, _, rfl, rfl, SqT.of hr, rfl, ?_⟩
  have kl : ks.length = wt.length := by rw [← ek]; exact (rdM_ok G.okR _ m wt (Nat.le_refl _) (by have := mode_ok mo; rw [modeI_toMd] at this; exact this)).2
  refine ⟨_, ks, wt.map fun c => .str (S [c]), rfl, .inr ⟨wt, rfl, rfl⟩, by rw [List.length_map]; omega, by omega, fun H3 b3 ps s4 hb3 hpl3 hel => ?_⟩
  refine q H3 (.ref b3) (fun b o z => s4 _ _ (s3 _ _ (s2 _ _ z))) ?_
  rw [ek]
  exact prs_of hb3 (by rw [List.map_map]; rfl) hpl3 hel

end
end Vf

set_option maxRecDepth 100000
set_option maxHeartbeats 4000000
namespace Vf
open PySem PySem.Spec PyProof.Rows L2 SX
section
variable {P : Program} {w : World} {K : PySem.W.Frag} {mg : Str → Option Value} {base : Heap}
theorem ok_fedText {f : Addr} {fd : FuncData} {CR CD CG CM : Addr} (F : C8.Def K mg "_law_fed_text" s_fedText f fd) (b : Binds K fd ["_law_machine", "_law_signs"] []) (T : Tx K w mg) (A0 : Ca K CR CD CG) (AM : Cm K CM) (C_ReadingMachine_moved : C8.Met P w K mg base 4 CM "moved" (sp_moved P w K CR CD CG CM) []) : C8.Cal P w K mg base 5 "_law_fed_text" (sp_fedText P w K CR CD CG CM) [] := by
  refine C8.cal0 F b .nil sc_fedText (fun vs H Q E h => ?_) (fun cdv A outer s H vs Q E hr h => ?_)
  · obtain ⟨_, _, _, _, _, _, rfl, _⟩ := h; rfl
  have hu := hu_of hr
  refine ⟨_, (pss_cons (ps_par (i := 2) (j := 3) (by rfl) sc_fedText.nd rfl rfl (by decide) rfl rfl (pa_cons (pe_lst (pa_cons (pe_fld (pv 0) rfl) pa_nil)) (pa_cons (pe_lst pa_nil) pa_nil)) (by rfl))
      (pss_cons (ps_for PassesOwn.never rfl (pi_list (pv 1)) (pg_name (i := 4) sc_fedText.nd rfl (Or.inl rfl))
      (pss_cons (ps_asg (C8.pe_mt C_ReadingMachine_moved hr (by decide) (pv 0) (pa_cons (pe_ix ix_list (pv 2) (pe_un un_neg pe_int) (fun _ _ => rfl)) (pa_cons (pv 4) pa_nil))) (pg_tup (by rfl) (pgs_cons (pg_name (i := 5) sc_fedText.nd rfl (Or.inl rfl)) (pgs_cons (pg_name (i := 6) sc_fedText.nd rfl (Or.inl rfl)) pgs_nil))))
      (pss_cons (ps_expr (pe_bm PySem.F.plainAttrs_list PySem.F.slot_list_append PySem.F.type_list_append mt_append (pv 2) (pa_cons (pv 5) pa_nil)))
      (pss_one (ps_expr (pe_bm PySem.F.plainAttrs_list PySem.F.slot_list_append PySem.F.type_list_append mt_append (pv 3) (pa_cons (pv 6) pa_nil)))))))
      (pss_one (ps_ret (pe_tup (pa_cons (pv 2) (pa_cons (pv 3) pa_nil))))))), ?_⟩

  obtain ⟨a, tg, B, fs, tx, gs, rfl, hrm, htg, G, hB, hgl, q⟩ := h
  obtain ⟨dx, b0, ha, hb0⟩ := id hrm
  have cl := AM.iM.cl
  refine ⟨_, rfl, a, CM, dx, _, _, rfl, ha, cl, AM.m2, rfl, szB (show 1 ≤ 1000000 by decide), fun D hD => ⟨szB (by decide), fun E0 hE => ⟨_, _, rfl, ?_⟩⟩⟩
  have sD := same1 hD (.lst [.ref b0])
  have s0 := same_new sD hE (.lst [])
  have hD0 : upd (upd H D (.lst [.ref b0])) E0 (.lst []) D = some (.lst [.ref b0]) := by rw [upd_ne (ne_of_none upd_same hE)]; exact upd_same
  have hE0 : upd (upd H D (.lst [.ref b0])) E0 (.lst []) E0 = some (.lst []) := upd_same
  have hDE : D ≠ E0 := ne_of_none upd_same hE
  have hEH : H E0 = none := by
    cases e : H E0 with
    | none => rfl
    | some o => have := sD _ _ e; rw [hE] at this; cases this
  generalize upd (upd H D (.lst [.ref b0])) E0 (.lst []) = H0 at s0 hD0 hE0 ⊢
  refine ⟨_, rfl, B, rfl, ⟨_, SqL.of (s0 _ _ hB)⟩, ?_⟩
  refine for_list (K := K) (a := B) (xs := gs.map sgV) (fun i σ H' => Same H H' ∧ ∃ (sv pv : List V) (st : List (Md × List Nat)) (tl : List (List Nat)) (v4 v5 v6 : Option V), σ = [some (.ref a), some (.ref B), some (.ref D), some (.ref E0), v4, v5, v6] ∧ H' D = some (.lst sv) ∧ H' E0 = some (.lst pv) ∧ Fed (fs.map ruOf) (gs.take i) st tl ∧ StsV fs H' sv st ∧ TlsV H' pv (gs.take i) st tl)
    ⟨s0, [.ref b0], [], [(none, [])], [], none, none, none, rfl, hD0, hE0, ⟨rfl, rfl, rfl, fun i g p q ks a => by cases a⟩, ⟨rfl, fun j v p a c => ?_⟩, ⟨rfl, fun j v a => by cases a⟩⟩ (fun i σ H' _ z => SqL.of (z.1 _ _ hB)) ?_ ?_
  · cases j with
    | zero =>
      cases a; cases c
      exact ⟨b0, rfl, s0 _ _ hb0, .inl rfl⟩
    | succ j => cases a
  · rintro i x σ H1 hx ⟨s1, sv, pv, st, tl, v4, v5, v6, rfl, hD1, hE1, fd1, sv1, pv1⟩
    rw [List.getElem?_map] at hx
    obtain ⟨g, hg, rfl⟩ := Option.map_eq_some_iff.mp hx
    have hil := (List.getElem?_eq_some_iff.mp hg).1
    have gl : (gs.take i).length = i := by rw [List.length_take]; omega
    have l1 := fd1.l1
    have l2 := fd1.l2
    rw [gl] at l1 l2
    have svl := sv1.1
    have pvl := pv1.1
    have hlt : i < sv.length := by omega
    have hsv : sv[i]? = some sv[i] := List.getElem?_eq_getElem hlt
    have hst : st[i]? = some st[i] := List.getElem?_eq_getElem (by omega)
    have hsd := sv1.2 i _ _ hsv hst
    have mc := fed_mac fd1 i _ (by omega) hst
    have ml := (mac_all G.okR mc).2.1
    rw [List.length_map, List.length_take, gl] at ml
    have al : atI sv (-1) = some sv[i] := by
      unfold atI ixN
      rw [if_neg (by decide), if_pos (by omega)]
      show sv[((-1 : Int) + (sv.length : Int)).toNat]? = _
      rw [show ((-1 : Int) + (sv.length : Int)).toNat = i by omega]
      exact hsv
    refine ⟨_, rfl, a, dx, _, rfl, s1 _ _ ha, rfl, _, rfl, _, rfl, D, sv, _, _, rfl, rfl, SqL.of hD1, al, _, rfl, ?_⟩
    refine ⟨a, tg, fs, tx, sv[i], st[i].1, st[i].2, g, rfl, ⟨dx, b0, s1 _ _ ha, s1 _ _ hb0⟩, htg.kp (.of s1), G, hsd, by omega, fun H2 r s9 p9 m' w' ks s2 hr hs9 hp9 hsd9 => ?_⟩
    refine ⟨r, _, rfl, SqT.of hr, rfl, _, _, rfl, _, _, rfl, rfl, ?_⟩
    have hD2 := s2 _ _ hD1
    have hE2 := s2 _ _ hE1
    refine ⟨_, rfl, .inl ⟨rfl, _, SqL.of hD2⟩, _, rfl, D, _, _, rfl, rfl, hD2, szL (by omega), ?_⟩
    have hE3 : upd H2 D (.lst (sv ++ [s9])) E0 = some (.lst pv) := by rw [upd_ne hDE.symm]; exact hE2
    refine ⟨_, rfl, .inl ⟨rfl, _, SqL.of hE3⟩, _, rfl, E0, _, _, rfl, rfl, hE3, szL (by omega), ?_⟩
    have tk : ∀ b xs, H2 b = some (.tup xs) → (upd (upd H2 D (.lst (sv ++ [s9]))) E0 (.lst (pv ++ [p9]))) b = some (.tup xs) := fun b xs z => by
      have n1 : b ≠ E0 := fun y => by rw [y, hE2] at z; cases z
      have n2 : b ≠ D := fun y => by rw [y, hD2] at z; cases z
      rw [upd_ne n1, upd_ne n2]; exact z
    have tg2 : gs.take (i + 1) = gs.take i ++ [g] := by rw [List.take_add_one, hg]; rfl
    refine ⟨fun c o z => ?_, sv ++ [s9], pv ++ [p9], st ++ [(m', w')], tl ++ [ks], _, _, _, rfl, by rw [upd_ne hDE]; exact upd_same, upd_same, by rw [tg2]; exact fed_snoc fd1 (by rw [gl]; exact hst) hsd9, ?_, ?_⟩
    · rw [upd_ne (ne_of_none z hEH), upd_ne (ne_of_none z hD)]; exact s2 _ _ (s1 _ _ z)
    · exact (sts_snoc (sv1.same fun b xs z => s2 _ _ z) hs9).same tk
    · rw [tg2]
      exact (tls_snoc (pv1.same fun b xs z => s2 _ _ z) (by rw [gl]; exact l1) (by rw [gl]; exact l2) (by rw [gl]; exact hst) hp9).same tk
  · rintro σ H1 ⟨s1, sv, pv, st, tl, v4, v5, v6, rfl, hD1, hE1, fd1, sv1, pv1⟩
    rw [List.length_map, List.take_of_length_le (Nat.le_refl _)] at fd1 pv1
    exact ⟨_, rfl, _, rfl, szB (show 2 ≤ 1000000 by decide), fun R hR => q _ R D E0 sv pv st tl (same_new s1 hR _) hD hEH upd_same (by rw [upd_ne (ne_of_none hD1 hR)]; exact hD1) (by rw [upd_ne (ne_of_none hE1 hR)]; exact hE1) fd1 (sv1.same fun b xs z => same1 hR _ _ _ z) (pv1.same fun b xs z => same1 hR _ _ _ z)⟩

end
end Vf

set_option maxRecDepth 100000
set_option maxHeartbeats 4000000
namespace Vf
open PySem PySem.Spec PyProof.Rows L2 SX
section
variable {P : Program} {w : World} {K : PySem.W.Frag} {mg : Str → Option Value} {base : Heap}
theorem take_sw {t : List Nat} {m : Str} {n : Nat} (hn : n = m.length) : decide (V.str (S (t.take n)) = V.str m) = decide (Sw (TL.tl m) t) := by
  refine decide_eq_decide.mpr ?_
  subst hn
  constructor
  · intro h
    have h2 : S (t.take m.length) = m := V.str.inj h
    refine ⟨t.drop m.length, ?_⟩
    have : TL.tl m = t.take m.length := by rw [← h2, TL.tl_mk, h2]
    rw [this, List.take_append_drop]
  · rintro ⟨r, rfl⟩
    rw [TL.len_tl, List.take_left, S_tl]
theorem slice_len {t : List Nat} {a n : Nat} : Txt.slice (S t) (some (a : Int)) (some ((a : Int) + (n : Int))) = S ((t.drop a).take n) := by
  rw [show (a : Int) + (n : Int) = ((a + n : Nat) : Int) by omega, slice2 (by omega)]
  rw [show a + n - a = n by omega]
theorem ok_opened {f : Addr} {fd : FuncData} (F : C8.Def K mg "_law_opened" s_opened f fd) (b : Binds K fd ["_law_rules", "_law_text", "_law_at"] []) (T : Tx K w mg)  : C8.Cal P w K mg base 1 "_law_opened" sp_opened [] := by
  refine C8.cal0 F b .nil sc_opened (fun vs H Q E h => ?_) (fun cdv A outer s H vs Q E hr h => ?_)
  · obtain ⟨_, _, _, _, rfl, _⟩ := h; rfl
  have hu := hu_of hr
  refine ⟨_, (pss_cons (ps_asg (pe_tup (pa_cons (pe_un un_neg pe_int) (pa_cons pe_int pa_nil))) (pg_tup (by rfl) (pgs_cons (pg_name (i := 3) sc_opened.nd rfl (Or.inl rfl)) (pgs_cons (pg_name (i := 4) sc_opened.nd rfl (Or.inl rfl)) pgs_nil))))
      (pss_cons (ps_for PassesOwn.never rfl (pi_range1 (by rfl) T.z_range (pa_cons (pe_callB call_len (by rfl) T.z_len PySem.boot_len (pa_cons (pv 0) pa_nil)) pa_nil)) (pg_name (i := 5) sc_opened.nd rfl (Or.inl rfl))
      (pss_cons (ps_set (i := 6) sc_opened.nd rfl (Or.inl rfl) (pe_ix ix_tup (pe_ix ix_list (pv 0) (pv 5) (fun _ _ => rfl)) pe_int (fun _ _ => rfl)))
      (pss_one (ps_if (PW.pt (pw_and (pt_cmpR op_eq (pe_slice C8.sl_txt (pv 1) (po_some (pv 2)) (po_some (pe_op op_add (pv 2) (pe_callB call_len (by rfl) T.z_len PySem.boot_len (pa_cons (pv 6) pa_nil))))) (pv 6) (nomark _)) (pw_and1 (PW.pt (pw_or (pt_cmpR op_lt (pv 3) pe_int (nomark _)) (pw_or1 (pt_cmpR op_gt (pe_callB call_len (by rfl) T.z_len PySem.boot_len (pa_cons (pv 6) pa_nil)) (pv 4) (nomark _))))))))
      (pss_one (ps_par (i := 3) (j := 4) (by rfl) sc_opened.nd rfl rfl (by decide) rfl rfl (pa_cons (pv 5) (pa_cons (pe_callB call_len (by rfl) T.z_len PySem.boot_len (pa_cons (pv 6) pa_nil)) pa_nil)) (by rfl)))
      pss_nil))))
      (pss_one (ps_ret (pe_tup (pa_cons (pv 3) (pa_cons (pv 4) pa_nil))))))), ?_⟩

  obtain ⟨L, qs, t, at_, rfl, hL, ok, hat, htl, q⟩ := h
  obtain ⟨rs, hr, hl, hx⟩ := id hL
  have tlt : (S t).length = t.length := S_len t
  refine ⟨_, rfl, szB (show 2 ≤ 1000000 by decide), fun T0 hT0 => ?_⟩
  have s0 := same1 hT0 (.tup [.int (-1), .int 1])
  refine ⟨T0, _, rfl, SqT.of upd_same, rfl, _, _, rfl, _, _, rfl, rfl, ?_⟩
  refine ⟨_, rfl, _, qs.length, rfl, .inl ⟨_, SqL.of (s0 _ _ hr), hl.symm⟩, _, rfl, by omega, by have := ok.2.2.2; omega, ?_⟩
  rw [show ((qs.length : Nat) : Int).toNat = qs.length from Int.toNat_natCast _]
  refine for_range (lo := 0) (n := qs.length) (fun i σ H' => Same H H' ∧ ∃ (b : Option Nat × Nat) (v5 v6 : Option V), σ = [some (.ref L), some (.str (S t)), some (.int (at_ : Int)), some (.int (opV b).1), some (.int (opV b).2), v5, v6] ∧ openL (rsQ qs) (t.drop at_) = opGo (t.drop at_) i ((rsQ qs).drop i) b) ⟨s0, (none, 1), none, none, rfl, rfl⟩ ?_ ?_
  · rintro i σ H1 hi ⟨s1, b, v5, v6, rfl, hb⟩
    have hq : qs[i]? = some qs[i] := List.getElem?_eq_getElem hi
    have hri : i < rs.length := by omega
    have hv : rs[i]? = some rs[i] := List.getElem?_eq_getElem hri
    obtain ⟨a, ea, ha, ro⟩ := hx i _ _ hv hq
    rw [ea] at hv
    replace ha := s1 _ _ ha
    have hd : (rsQ qs).drop i = ruR qs[i] :: (rsQ qs).drop (i + 1) := by
      have : (rsQ qs)[i]? = some (ruR qs[i]) := by rw [List.getElem?_map, hq]; rfl
      obtain ⟨h1, h2⟩ := List.getElem?_eq_some_iff.mp this
      rw [List.drop_eq_getElem_cons h1, h2]
    generalize qs[i] = r at hq ha ro hd
    rw [hd, opGo] at hb
    have rl := mk_len ro.ho
    have ho : (ruR r).o = TL.tl r.o := rfl
    have hol : (ruR r).o.length = r.o.length := (TL.len_tl r.o).symm
    have e0 : (0 : Int) + (i : Int) = (i : Int) := by omega
    refine ⟨_, rfl, _, rfl, L, rs, _, _, rfl, rfl, SqL.of (s1 _ _ hr), (by rw [e0]; exact atI_nat hv), a, _, 1, _, rfl, rfl, SqT.of ha, rfl, ?_⟩
    refine ⟨_, rfl, _, rfl, _, rfl, _, rfl, _, rfl, _, r.o.length, rfl, ⟨szB (by omega), rfl⟩, _, _, rfl, rfl, _, rfl, _, rfl, szB (by rw [tlt]; omega), ?_⟩
    rw [slice_len]
    refine ⟨_, rfl, rfl, _, rfl, ?_⟩
    rw [take_sw rfl]
    by_cases hs : Sw (TL.tl r.o) (t.drop at_)
    · refine ify (decide_eq_true hs) ⟨_, rfl, _, _, rfl, rfl, _, rfl, ?_⟩
      obtain ⟨b1, b2⟩ := b
      cases b1 with
      | none =>
        rw [if_pos ⟨hs, .inl rfl⟩] at hb
        refine ify (decide_eq_true (show (-1 : Int) < 0 by decide)) ?_
        refine ⟨_, rfl, _, rfl, _, r.o.length, rfl, ⟨szB (by omega), rfl⟩, _, _, rfl, s1, (some i, r.o.length), some (.int ((0 : Int) + (i : Int))), some (.str r.o), ?_, by rw [hb, hol]⟩
        show [_, _, _, some (V.int (0 + (i : Int))), some (V.int (r.o.length : Int)), _, _] = _
        rw [e0]; rfl
      | some k =>
        refine ifn (decide_eq_false (show ¬ ((k : Int) < 0) by omega)) ⟨_, rfl, _, r.o.length, rfl, ⟨szB (by omega), rfl⟩, _, rfl, _, _, rfl, rfl, _, rfl, ?_⟩
        by_cases hk : b2 < r.o.length
        · rw [if_pos ⟨hs, .inr (by rw [hol]; exact hk)⟩] at hb
          refine ify (decide_eq_true (show (b2 : Int) < (r.o.length : Int) by omega)) ?_
          refine ⟨_, rfl, _, rfl, _, r.o.length, rfl, ⟨szB (by omega), rfl⟩, _, _, rfl, s1, (some i, r.o.length), some (.int ((0 : Int) + (i : Int))), some (.str r.o), ?_, by rw [hb, hol]⟩
          show [_, _, _, some (V.int (0 + (i : Int))), some (V.int (r.o.length : Int)), _, _] = _
          rw [e0]; rfl
        · rw [if_neg (fun z => z.2.elim (fun y => nomatch y) fun y => hk (by rw [hol] at y; exact y))] at hb
          exact ifn (decide_eq_false (show ¬ ((b2 : Int) < (r.o.length : Int)) by omega)) ⟨s1, (some k, b2), _, _, rfl, hb⟩
    · rw [if_neg (fun z => hs z.1)] at hb
      exact ifn (decide_eq_false hs) ⟨s1, b, _, _, rfl, hb⟩
  · rintro σ H1 ⟨s1, b, v5, v6, rfl, hb⟩
    have e : (rsQ qs).drop qs.length = [] := List.drop_eq_nil_of_le (by rw [List.length_map]; exact Nat.le_refl _)
    rw [e] at hb
    refine ⟨_, rfl, _, rfl, szB (show 2 ≤ 1000000 by decide), fun R hR => ?_⟩
    refine q _ R (same_new s1 hR _) ?_
    rw [hb]
    exact upd_same

end
end Vf

set_option maxRecDepth 100000
set_option maxHeartbeats 4000000
namespace Vf
open PySem PySem.Spec PyProof.Rows L2 SX
section
variable {P : Program} {w : World} {K : PySem.W.Frag} {mg : Str → Option Value} {base : Heap}
theorem take_sw2 {t c : List Nat} {n : Nat} (hn : n = c.length) : decide (V.str (S (t.take n)) = V.str (S c)) = decide (Sw c t) := by
  have := take_sw (t := t) (m := S c) (n := n) (by rw [S_len]; exact hn)
  rw [TL.tl_mk] at this
  exact this
theorem ok_lawPassed {f : Addr} {fd : FuncData} (F : C8.Def K mg "_law_passed" s_lawPassed f fd) (b : Binds K fd ["_law_rule", "_law_text", "_law_at", "_law_depth"] []) (T : Tx K w mg)  : C8.Cal P w K mg base 1 "_law_passed" sp_lawPassed [] := by
  refine C8.cal0 F b .nil sc_lawPassed (fun vs H Q E h => ?_) (fun cdv A outer s H vs Q E hr h => ?_)
  · obtain ⟨_, _, _, _, _, rfl, _⟩ := h; rfl
  have hu := hu_of hr
  refine ⟨_, (pss_cons (ps_asg (pv 0) (pg_tup (by rfl) (pgs_cons (pg_name (i := 4) sc_lawPassed.nd rfl (Or.inl rfl)) (pgs_cons (pg_name (i := 5) sc_lawPassed.nd rfl (Or.inl rfl)) (pgs_cons (pg_name (i := 6) sc_lawPassed.nd rfl (Or.inl rfl)) (pgs_cons (pg_name (i := 7) sc_lawPassed.nd rfl (Or.inl rfl)) (pgs_cons (pg_name (i := 8) sc_lawPassed.nd rfl (Or.inl rfl)) (pgs_cons (pg_name (i := 9) sc_lawPassed.nd rfl (Or.inl rfl)) (pgs_cons (pg_name (i := 10) sc_lawPassed.nd rfl (Or.inl rfl)) pgs_nil)))))))))
      (C8.pss_cut (ps_if (PW.pt (pw_and (pt_cmpR op_ne (pv 8) pe_str (nomark _)) (pw_and1 (pt_cmpR op_eq (pe_ix ix_str (pv 1) (pv 2) (fun _ _ => rfl)) (pv 8) (nomark _)))))
      (pss_one (ps_ret (pe_tup (pa_cons (pe_callB (call_min2 rfl) (by rfl) T.z_min (by decide +kernel) (pa_cons pe_int (pa_cons (pe_op op_sub (pe_callB call_len (by rfl) T.z_len PySem.boot_len (pa_cons (pv 1) pa_nil)) (pv 2)) pa_nil))) (pa_cons (pv 3) pa_nil)))))
      pss_nil)
      (C8.pss_cut (ps_if (PW.pt (pw_and (pt_val (pv 9)) (pw_and1 (pt_cmpR op_eq (pe_slice C8.sl_txt (pv 1) (po_some (pv 2)) (po_some (pe_op op_add (pv 2) (pe_op op_mul pe_int (pe_callB call_len (by rfl) T.z_len PySem.boot_len (pa_cons (pv 6) pa_nil)))))) (pe_op op_add_str (pv 6) (pv 6)) (nomark _)))))
      (pss_one (ps_ret (pe_tup (pa_cons (pe_op op_mul pe_int (pe_callB call_len (by rfl) T.z_len PySem.boot_len (pa_cons (pv 6) pa_nil))) (pa_cons (pv 3) pa_nil)))))
      pss_nil)
      (C8.pss_cut (ps_set (i := 11) sc_lawPassed.nd rfl (Or.inl rfl) (pe_and (pe_cmpR op_ne (pv 6) pe_str (nomark _)) (pe_one (pe_cmpR op_eq (pe_slice C8.sl_txt (pv 1) (po_some (pv 2)) (po_some (pe_op op_add (pv 2) (pe_callB call_len (by rfl) T.z_len PySem.boot_len (pa_cons (pv 6) pa_nil))))) (pv 6) (nomark _)))))
      (C8.pss_cut (ps_if (PW.pt (pw_and (pt_cmpR op_lt (pv 3) (pv 7) (nomark _)) (pw_and (pt_cmpR op_eq (pe_slice C8.sl_txt (pv 1) (po_some (pv 2)) (po_some (pe_op op_add (pv 2) (pe_callB call_len (by rfl) T.z_len PySem.boot_len (pa_cons (pv 5) pa_nil))))) (pv 5) (nomark _)) (pw_and1 (PW.pt (pw_or (pt_not (pt_val (pv 11))) (pw_or1 (pt_cmpR op_gt (pe_callB call_len (by rfl) T.z_len PySem.boot_len (pa_cons (pv 5) pa_nil)) (pe_callB call_len (by rfl) T.z_len PySem.boot_len (pa_cons (pv 6) pa_nil)) (nomark _)))))))))
      (pss_one (ps_ret (pe_tup (pa_cons (pe_callB call_len (by rfl) T.z_len PySem.boot_len (pa_cons (pv 5) pa_nil)) (pa_cons (pe_op op_add (pv 3) pe_int) pa_nil)))))
      pss_nil)
      (pss_cons (ps_if (pt_val (pv 11))
      (pss_one (ps_ret (pe_tup (pa_cons (pe_callB call_len (by rfl) T.z_len PySem.boot_len (pa_cons (pv 6) pa_nil)) (pa_cons (pe_op op_sub (pv 3) pe_int) pa_nil)))))
      pss_nil)
      (C8.pss_cut (ps_if (PW.pt (pw_and (pt_cmpR op_eq (pe_ix ix_str (pv 1) (pv 2) (fun _ _ => rfl)) pe_str (nomark _)) (pw_and1 (PW.pt (pw_or (pt_cmpR op_eq (pv 6) pe_str (nomark _)) (pw_or1 (pt_val (pv 10))))))))
      (pss_one (ps_ret (pe_tup (pa_cons pe_int (pa_cons pe_int pa_nil)))))
      pss_nil)
      (pss_one (ps_ret (pe_tup (pa_cons pe_int (pa_cons (pv 3) pa_nil)))))))))))), ?_⟩

  obtain ⟨v, r, t, at_, d, rfl, ⟨a, rfl, ha, ro⟩, hat, htl, hd1, hd2, q⟩ := h
  have tlt : (S t).length = t.length := S_len t
  have ol := mk_len ro.ho
  have cl : r.c.length ≤ 4 := ro.hc.elim (fun y => by rw [y]; decide +kernel) fun y => (mk_len y).2
  have hct : t[at_]? = some t[at_] := List.getElem?_eq_getElem hat
  have edrop : t.drop at_ = t[at_] :: t.drop (at_ + 1) := List.drop_eq_getElem_cons hat
  generalize t[at_] = ch at hct edrop
  have etake : (t.drop at_).take 1 = [ch] := by rw [edrop]; rfl
  have hatc : atI (S t).cps.toList (at_ : Int) = some ch := atI_nat hct
  have tl1 : (t.drop at_).length = t.length - at_ := List.length_drop ..
  have hol : (ruR r).o.length = r.o.length := (TL.len_tl r.o).symm
  have hcl : (ruR r).c.length = r.c.length := (TL.len_tl r.c).symm
  have hc0 : (ruR r).c = [] ↔ r.c = "" := tl_nil
  have hst : ∀ w d', stepL (ruR r) (t.drop at_) d = (w, d') → ∀ (H' : Hp) (R : Addr), Same H H' → H' R = none → Q (.ref R) (upd H' R (.tup [.int (w : Int), .int (d' : Int)])) := fun w d' e H' R s hR => by
    refine q _ R (same_new s hR _) ?_
    rw [e]
    exact upd_same
  refine ⟨_, rfl, a, _, rfl, SqT.of ha, rfl, _, _, rfl, _, _, rfl, _, _, rfl, _, _, rfl, _, _, rfl, _, _, rfl, _, _, rfl, rfl, ?_⟩
  let σ9 : Option V → L2.St := fun v11 => [some (.ref a), some (.str (S t)), some (.int (at_ : Int)), some (.int (d : Int)), some (.str r.k), some (.str r.o), some (.str r.c), some (.int (r.d : Int)), some (.str r.e), some (.bl r.db), some (.bl r.ln), v11]
  refine ⟨fun σ' H' => σ' = σ9 none ∧ Same H H' ∧ ¬ ((ruR r).e ≠ [] ∧ (t.drop at_).take 1 = (ruR r).e), ?_, ?_⟩
  · refine ⟨_, rfl, rfl, _, rfl, ?_⟩
    by_cases he : r.e = ""
    · refine ifn (by rw [he, decide_eq_true rfl]; rfl) (ifF ⟨rfl, fun _ _ z => z, fun z => z.1 (tl_nil.mpr he)⟩)
    · refine ify (by rw [decide_eq_false (fun z => he (V.str.inj z))]; rfl) ?_
      refine ⟨_, rfl, _, rfl, S t, _, ch, rfl, rfl, szB (by rw [tlt]; omega), hatc, _, rfl, rfl, _, rfl, ?_⟩
      by_cases hce : S [ch] = r.e
      · refine ify (decide_eq_true (congrArg V.str hce)) ?_
        have hc : (ruR r).e ≠ [] ∧ (t.drop at_).take 1 = (ruR r).e := by
          have : TL.tl r.e = [ch] := by rw [← hce, TL.tl_mk]
          exact ⟨fun z => he (tl_nil.mp z), by rw [etake]; exact this.symm⟩
        have es : stepL (ruR r) (t.drop at_) d = (min 2 (t.drop at_).length, d) := by unfold stepL; rw [if_pos hc]
        have em : (if (t.length : Int) - (at_ : Int) < 2 then (t.length : Int) - (at_ : Int) else 2) = ((min 2 (t.drop at_).length : Nat) : Int) := by rw [tl1]; split <;> omega
        refine ⟨_, rfl, _, t.length, rfl, ⟨by rw [tlt]; exact szB (by omega), tlt.symm⟩, _, rfl, _, _, rfl, rfl, _, _, rfl, _, rfl, szB (show 2 ≤ 1000000 by decide), fun R hR => ?_⟩
        have := hst _ _ es H R (fun _ _ z => z) hR
        rw [← em] at this
        exact this
      · exact ifn (decide_eq_false fun z => hce (V.str.inj z)) ⟨rfl, fun _ _ z => z, fun z => hce (by
          have : TL.tl r.e = [ch] := by rw [← etake]; exact z.2.symm
          exact (congrArg S this.symm).trans (S_tl r.e))⟩
  rintro σ1 H1 ⟨rfl, s1, hne⟩
  refine ⟨fun σ' H' => σ' = σ9 none ∧ Same H H' ∧ ¬ ((ruR r).db = true ∧ Sw ((ruR r).c ++ (ruR r).c) (t.drop at_)), ?_, ?_⟩
  · refine ⟨_, rfl, _, rfl, ?_⟩
    by_cases hb : r.db = true
    · refine ify hb ?_
      refine ⟨_, rfl, _, rfl, _, rfl, _, rfl, _, rfl, _, r.c.length, rfl, ⟨szB (by omega), rfl⟩, ?_⟩
      refine ⟨_, _, rfl, rfl, .inl ⟨by decide, by decide⟩, _, _, rfl, rfl, _, rfl, _, rfl, szB (by rw [tlt]; omega), ?_⟩
      have hdc : 2 * (r.c.length : Int) = ((2 * r.c.length : Nat) : Int) := by omega
      refine ⟨_, rfl, _, rfl, _, _, rfl, rfl, szB (by omega), rfl, _, rfl, ?_⟩
      have e2 : (2 : Int) * (r.c.length : Int) = ((2 * r.c.length : Nat) : Int) := by omega
      have ecc : r.c ++ r.c = S (TL.tl r.c ++ TL.tl r.c) := by rw [← S_cat, S_tl]
      rw [e2, slice_len, ecc, take_sw2 (by rw [List.length_append, ← TL.len_tl]; omega)]
      by_cases hs : Sw ((ruR r).c ++ (ruR r).c) (t.drop at_)
      · refine ify (decide_eq_true hs) ?_
        have es : stepL (ruR r) (t.drop at_) d = (2 * r.c.length, d) := by unfold stepL; rw [if_neg hne, if_pos ⟨hb, hs⟩, hcl]
        refine ⟨_, rfl, _, r.c.length, rfl, ⟨szB (by omega), rfl⟩, _, _, rfl, rfl, .inl ⟨by decide, by decide⟩, _, rfl, szB (show 2 ≤ 1000000 by decide), fun R hR => ?_⟩
        have := hst _ _ es H1 R s1 hR
        rw [← e2] at this
        exact this
      · exact ifn (decide_eq_false hs) ⟨rfl, s1, fun z => hs z.2⟩
    · exact ifn (Bool.eq_false_iff.mpr hb) (ifF ⟨rfl, s1, fun z => hb z.1⟩)
  rintro σ1 H2 ⟨rfl, s2, hnd⟩
  refine ⟨fun σ' H' => ∃ b : Bool, (b = true ↔ ((ruR r).c ≠ [] ∧ Sw (ruR r).c (t.drop at_))) ∧ σ' = σ9 (some (.bl b)) ∧ Same H H', ?_, ?_⟩
  · refine ⟨_, rfl, rfl, _, rfl, ?_⟩
    by_cases hc : r.c = ""
    · exact ifn (by rw [hc, decide_eq_true rfl]; rfl) ⟨false, ⟨fun z => (nomatch z), fun z => absurd (hc0.mpr hc) z.1⟩, rfl, s2⟩
    · refine ify (by rw [decide_eq_false (fun z => hc (V.str.inj z))]; rfl) ?_
      refine ⟨_, rfl, _, rfl, _, rfl, _, rfl, _, rfl, _, r.c.length, rfl, ⟨szB (by omega), rfl⟩, _, _, rfl, rfl, _, rfl, _, rfl, szB (by rw [tlt]; omega), ?_⟩
      rw [slice_len]
      refine ⟨_, rfl, rfl, ?_⟩
      rw [take_sw rfl]
      refine ⟨_, ⟨fun z => ⟨fun y => hc (hc0.mp y), of_decide_eq_true z⟩, fun z => decide_eq_true z.2⟩, rfl, s2⟩
  rintro σ1 H3 ⟨en, hen, rfl, s3⟩
  refine ⟨fun σ' H' => σ' = σ9 (some (.bl en)) ∧ Same H H' ∧ ¬ (d < (ruR r).d ∧ Sw (ruR r).o (t.drop at_) ∧ (¬ ((ruR r).c ≠ [] ∧ Sw (ruR r).c (t.drop at_)) ∨ (ruR r).c.length < (ruR r).o.length)), ?_, ?_⟩
  · have hdd : (ruR r).d = r.d := rfl
    refine ⟨_, rfl, _, rfl, _, _, rfl, rfl, _, rfl, ?_⟩
    by_cases hdl : d < r.d
    · refine ify (decide_eq_true (by omega)) ?_
      refine ⟨_, rfl, _, rfl, _, rfl, _, rfl, _, rfl, _, r.o.length, rfl, ⟨szB (by omega), rfl⟩, _, _, rfl, rfl, _, rfl, _, rfl, szB (by rw [tlt]; omega), ?_⟩
      rw [slice_len]
      refine ⟨_, rfl, rfl, _, rfl, ?_⟩
      rw [take_sw rfl]
      by_cases hs : Sw (ruR r).o (t.drop at_)
      · refine ify (decide_eq_true hs) ?_
        refine ⟨_, rfl, _, rfl, ?_⟩
        have es : ∀ z : (¬ ((ruR r).c ≠ [] ∧ Sw (ruR r).c (t.drop at_)) ∨ (ruR r).c.length < (ruR r).o.length), stepL (ruR r) (t.drop at_) d = (r.o.length, d + 1) := fun z => by
          unfold stepL
          rw [if_neg hne, if_neg hnd, if_pos ⟨hdl, hs, z⟩, hol]
        have done : (¬ ((ruR r).c ≠ [] ∧ Sw (ruR r).c (t.drop at_)) ∨ (ruR r).c.length < (ruR r).o.length) → ∀ R, H3 R = none → Q (.ref R) (upd H3 R (.tup [.int (r.o.length : Int), .int ((d : Int) + 1)])) := fun z R hR => by
          have := hst _ _ (es z) H3 R s3 hR
          rw [show (((d + 1 : Nat)) : Int) = (d : Int) + 1 by omega] at this
          exact this
        cases en with
        | false =>
          refine ifT ?_
          refine ⟨_, rfl, _, r.o.length, rfl, ⟨szB (by omega), rfl⟩, _, rfl, _, _, rfl, rfl, szB (show 2 ≤ 1000000 by decide), fun R hR => ?_⟩
          exact done (.inl fun z => by have := hen.mpr z; cases this) R hR
        | true =>
          refine ifF ⟨_, rfl, _, r.o.length, rfl, ⟨szB (by omega), rfl⟩, _, rfl, _, r.c.length, rfl, ⟨szB (by omega), rfl⟩, _, _, rfl, rfl, _, rfl, ?_⟩
          by_cases hlt : r.c.length < r.o.length
          · refine ify (decide_eq_true (by omega)) ?_
            refine ⟨_, rfl, _, r.o.length, rfl, ⟨szB (by omega), rfl⟩, _, rfl, _, _, rfl, rfl, szB (show 2 ≤ 1000000 by decide), fun R hR => ?_⟩
            exact done (.inr (by rw [hcl, hol]; exact hlt)) R hR
          · refine ifn (decide_eq_false (by omega)) ⟨rfl, s3, fun z => z.2.2.elim (fun y => y (hen.mp rfl)) fun y => hlt (by rw [hcl, hol] at y; exact y)⟩
      · exact ifn (decide_eq_false hs) (ifF ⟨rfl, s3, fun z => hs z.2.1⟩)
    · exact ifn (decide_eq_false (by omega)) (ifF ⟨rfl, s3, fun z => hdl z.1⟩)
  rintro σ1 H4 ⟨rfl, s4, hno⟩
  refine ⟨_, rfl, _, rfl, ?_⟩
  cases en with
  | true =>
    refine ify rfl ?_
    have hz := hen.mp rfl
    have es : stepL (ruR r) (t.drop at_) d = (r.c.length, d - 1) := by
      unfold stepL
      rw [if_neg hne, if_neg hnd, if_neg hno, if_pos hz, hcl]
    refine ⟨_, rfl, _, r.c.length, rfl, ⟨szB (by omega), rfl⟩, _, rfl, _, _, rfl, rfl, szB (show 2 ≤ 1000000 by decide), fun R hR => ?_⟩
    have := hst _ _ es H4 R s4 hR
    rw [show (((d - 1 : Nat)) : Int) = (d : Int) - 1 by omega] at this
    exact this
  | false =>
    refine ifn rfl ?_
    have hz : ¬ ((ruR r).c ≠ [] ∧ Sw (ruR r).c (t.drop at_)) := fun z => by have := hen.mpr z; cases this
    have hln : ((ruR r).c = [] ∨ (ruR r).ln = true) ↔ (r.c = "" ∨ r.ln = true) := by
      show (_ ∨ (decide (r.c = "") || r.ln) = true) ↔ _
      rw [hc0, Bool.or_eq_true, decide_eq_true_eq]
      exact ⟨fun z => z.elim .inl id, .inr⟩
    have es : stepL (ruR r) (t.drop at_) d = if (t.drop at_).take 1 = [10] ∧ (r.c = "" ∨ r.ln = true) then (0, 0) else (1, d) := by
      unfold stepL
      rw [if_neg hne, if_neg hnd, if_neg hno, if_neg hz]
      exact ite_iff (and_congr_right fun _ => hln) rfl
    refine ⟨fun σ' H' => σ' = σ9 (some (.bl false)) ∧ Same H H' ∧ ¬ ((t.drop at_).take 1 = [10] ∧ (r.c = "" ∨ r.ln = true)), ?_, ?_⟩
    · refine ⟨_, rfl, _, rfl, S t, _, ch, rfl, rfl, szB (by rw [tlt]; omega), hatc, rfl, _, rfl, ?_⟩
      by_cases h10 : ch = 10
      · refine ify (decide_eq_true (congrArg V.str (by rw [h10]; exact nl_S.symm))) ?_
        refine ⟨_, rfl, rfl, _, rfl, ?_⟩
        have done : (r.c = "" ∨ r.ln = true) → ∀ R, H4 R = none → Q (.ref R) (upd H4 R (.tup [.int 0, .int 0])) := fun z R hR => by
          have e2 := es
          rw [if_pos ⟨by rw [etake, h10], z⟩] at e2
          exact hst _ _ e2 H4 R s4 hR
        by_cases hc : r.c = ""
        · exact ify (decide_eq_true (congrArg V.str hc)) ⟨szB (show 2 ≤ 1000000 by decide), fun R hR => done (.inl hc) R hR⟩
        · refine ifn (decide_eq_false (fun z => hc (V.str.inj z))) ⟨_, rfl, _, rfl, ?_⟩
          by_cases hl : r.ln = true
          · exact ify hl ⟨szB (show 2 ≤ 1000000 by decide), fun R hR => done (.inr hl) R hR⟩
          · exact ifn (Bool.eq_false_iff.mpr hl) ⟨rfl, s4, fun z => z.2.elim hc hl⟩
      · refine ifn (decide_eq_false (fun z => h10 ?_)) (ifF ⟨rfl, s4, fun z => h10 ?_⟩)
        · have : S [ch] = S [10] := (V.str.inj z).trans nl_S
          exact (List.cons.inj (S_inj this)).1
        · rw [etake] at z; exact (List.cons.inj z.1).1
    rintro σ1 H5 ⟨rfl, s5, hnn⟩
    rw [if_neg hnn] at es
    refine ⟨_, rfl, szB (show 2 ≤ 1000000 by decide), fun R hR => ?_⟩
    exact hst _ _ es H5 R s5 hR

end
end Vf

set_option maxRecDepth 100000
set_option maxHeartbeats 4000000
namespace Vf
open PySem PySem.Spec PyProof.Rows L2 SX
section
variable {P : Program} {w : World} {K : PySem.W.Frag} {mg : Str → Option Value} {base : Heap}
theorem stepL_depP (r : Ru) (t : List Nat) (d : Nat) : (stepL r t d).2 ≤ d + 1 := by
  unfold stepL
  split
  · exact Nat.le_succ _
  · split
    · exact Nat.le_succ _
    · split
      · exact Nat.le_refl _
      · split
        · exact Nat.le_trans (Nat.sub_le _ _) (Nat.le_succ _)
        · split
          · exact Nat.zero_le _
          · exact Nat.le_succ _
theorem PcsX.same {H H' : Hp} {L : Addr} {ps : List Pc} (h : PcsX H L ps) (s : Same H H') : PcsX H' L ps := let ⟨vs, a, b, c⟩ := h
  ⟨vs, s _ _ a, b, fun j v p x y => let ⟨q, e, z⟩ := c j v p x y; ⟨q, e, s _ _ z⟩⟩
def PcsAt (H : Hp) (vs : List V) (ps : List Pc) : Prop := vs.length = ps.length ∧ ∀ (j : Nat) (v : V) (p : Pc), vs[j]? = some v → ps[j]? = some p → ∃ b, v = .ref b ∧ H b = some (.tup (pcV p))
theorem PcsAt.same {H H' : Hp} {vs : List V} {ps : List Pc} (h : PcsAt H vs ps) (s : Tk H H') : PcsAt H' vs ps := ⟨h.1, fun j v p x y => let ⟨q, e, z⟩ := h.2 j v p x y; ⟨q, e, s _ _ z⟩⟩
theorem PcsAt.snoc {H : Hp} {vs : List V} {ps : List Pc} {b : Addr} {p : Pc} (h : PcsAt H vs ps) (hb : H b = some (.tup (pcV p))) : PcsAt H (vs ++ [.ref b]) (ps ++ [p]) := by
  refine ⟨by rw [List.length_append, List.length_append, h.1]; rfl, fun j v q x y => ?_⟩
  rcases Nat.lt_or_ge j vs.length with c | c
  · rw [List.getElem?_append_left c] at x
    rw [List.getElem?_append_left (by rw [← h.1]; exact c)] at y
    exact h.2 j v q x y
  · rw [List.getElem?_append_right c] at x
    rw [List.getElem?_append_right (by rw [← h.1]; exact c), ← h.1] at y
    have : j - vs.length = 0 := by
      have := (List.getElem?_eq_some_iff.mp x).1
      simp at this; omega
    rw [this] at x y
    cases x; cases y
    exact ⟨b, rfl, hb⟩
theorem outL_code {rs : List Ru} {f p : Nat} {t : List Nat} (ht : t ≠ []) : outL rs (f + 1) none p t = (match openL rs t with | (none, _) => outL rs f none (p + 1) (t.drop 1) | (some k, m) => outL rs f (some (k, 1, p)) (p + m) (t.drop m)) := by
  cases t with
  | nil => exact absurd rfl ht
  | cons c r => rfl
theorem outL_in {rs : List Ru} {f p k d s : Nat} {t : List Nat} {ru : Ru} (ht : t ≠ []) (hk : rs[k]? = some ru) : outL rs (f + 1) (some (k, d, s)) p t = if (stepL ru t d).2 = 0 then (k, s, p + (stepL ru t d).1) :: outL rs f none (p + (stepL ru t d).1) (t.drop (stepL ru t d).1)
      else outL rs f (some (k, (stepL ru t d).2, s)) (p + (stepL ru t d).1) (t.drop (stepL ru t d).1) := by
  cases t with
  | nil => exact absurd rfl ht
  | cons c r =>
    show (match rs[k]? with | none => _ | some ru => _) = _
    rw [hk]
def hereI : Option Pc → Int
  | none => -1
  | some m => (m.1 : Int)
theorem ok_lawPieces {f : Addr} {fd : FuncData} (F : C8.Def K mg "_law_pieces" s_lawPieces f fd) (b : Binds K fd ["_law_rules", "_law_text"] []) (T : Tx K w mg) (C_opened : C8.Cal P w K mg base 1 "_law_opened" sp_opened []) (C_lawPassed : C8.Cal P w K mg base 1 "_law_passed" sp_lawPassed []) : C8.Cal P w K mg base 2 "_law_pieces" sp_lawPieces [] := by
  refine C8.cal0 F b .nil sc_lawPieces (fun vs H Q E h => ?_) (fun cdv A outer s H vs Q E hr h => ?_)
  · obtain ⟨_, _, _, rfl, _⟩ := h; rfl
  have hu := hu_of hr
  refine ⟨_, (pss_cons (ps_asg (pe_tup (pa_cons (pe_lst pa_nil) (pa_cons pe_int (pa_cons (pe_un un_neg pe_int) (pa_cons pe_int (pa_cons pe_int pa_nil)))))) (pg_tup (by rfl) (pgs_cons (pg_name (i := 2) sc_lawPieces.nd rfl (Or.inl rfl)) (pgs_cons (pg_name (i := 3) sc_lawPieces.nd rfl (Or.inl rfl)) (pgs_cons (pg_name (i := 4) sc_lawPieces.nd rfl (Or.inl rfl)) (pgs_cons (pg_name (i := 5) sc_lawPieces.nd rfl (Or.inl rfl)) (pgs_cons (pg_name (i := 6) sc_lawPieces.nd rfl (Or.inl rfl)) pgs_nil)))))))
      (C8.pss_cut (ps_for PassesOwn.never rfl (pi_range1 (by rfl) T.z_range (pa_cons (pe_op op_mul pe_int (pe_callB call_len (by rfl) T.z_len PySem.boot_len (pa_cons (pv 1) pa_nil))) pa_nil)) (pg_name (i := 7) sc_lawPieces.nd rfl (Or.inl rfl))
      (pss_cons (ps_if (pt_cmpR op_ge (pv 3) (pe_callB call_len (by rfl) T.z_len PySem.boot_len (pa_cons (pv 1) pa_nil)) (nomark _))
      (pss_one ps_break)
      pss_nil)
      (pss_one (ps_if (pt_cmpR op_lt (pv 4) pe_int (nomark _))
      (pss_cons (ps_set (i := 6) sc_lawPieces.nd rfl (Or.inl rfl) (pv 3))
      (pss_cons (ps_asg (C8.pe_c C_opened hr (by decide) rfl (pa_cons (pv 0) (pa_cons (pv 1) (pa_cons (pv 3) pa_nil)))) (pg_tup (by rfl) (pgs_cons (pg_name (i := 4) sc_lawPieces.nd rfl (Or.inl rfl)) (pgs_cons (pg_name (i := 8) sc_lawPieces.nd rfl (Or.inl rfl)) pgs_nil))))
      (pss_one (ps_par (i := 3) (j := 5) (by rfl) sc_lawPieces.nd rfl rfl (by decide) rfl rfl (pa_cons (pe_op op_add (pv 3) (pv 8)) (pa_cons pe_int pa_nil)) (by rfl)))))
      (pss_cons (ps_asg (C8.pe_c C_lawPassed hr (by decide) rfl (pa_cons (pe_ix ix_list (pv 0) (pv 4) (fun _ _ => rfl)) (pa_cons (pv 1) (pa_cons (pv 3) (pa_cons (pv 5) pa_nil))))) (pg_tup (by rfl) (pgs_cons (pg_name (i := 8) sc_lawPieces.nd rfl (Or.inl rfl)) (pgs_cons (pg_name (i := 5) sc_lawPieces.nd rfl (Or.inl rfl)) pgs_nil))))
      (pss_cons (ps_set (i := 3) sc_lawPieces.nd rfl (Or.inl rfl) (pe_op op_add (pv 3) (pv 8)))
      (pss_one (ps_if (pt_cmpR op_eq (pv 5) pe_int (nomark _))
      (pss_cons (ps_expr (pe_bm PySem.F.plainAttrs_list PySem.F.slot_list_append PySem.F.type_list_append mt_append (pv 2) (pa_cons (pe_tup (pa_cons (pv 4) (pa_cons (pv 6) (pa_cons (pv 3) pa_nil)))) pa_nil)))
      (pss_one (ps_set (i := 4) sc_lawPieces.nd rfl (Or.inl rfl) (pe_un un_neg pe_int))))
      pss_nil))))))))
      (pss_one (ps_ret (pe_tup (pa_cons (pe_op op_cat (pv 2) (pe_ifExp (pt_cmpR op_ge (pv 4) pe_int (nomark _)) (pe_lst (pa_cons (pe_tup (pa_cons (pv 4) (pa_cons (pv 6) (pa_cons (pe_callB call_len (by rfl) T.z_len PySem.boot_len (pa_cons (pv 1) pa_nil)) pa_nil)))) pa_nil)) (pe_lst pa_nil))) (pa_cons (pv 4) pa_nil))))))), ?_⟩

  obtain ⟨L, qs, t, rfl, hL, ok, htl, q⟩ := h
  obtain ⟨rs, hr, hl, hx⟩ := id hL
  have tlt : (S t).length = t.length := S_len t
  have okR := ok.ok
  refine ⟨szB (by decide), fun F hF => ⟨_, rfl, szB (show 5 ≤ 1000000 by decide), fun T0 hT0 => ?_⟩⟩
  have s0 := same1 hF (.lst [])
  have hFT : F ≠ T0 := ne_of_none upd_same hT0
  have s1 := same_new s0 hT0 (.tup [.ref F, .int 0, .int (-1), .int 0, .int 0])
  refine ⟨T0, _, rfl, SqT.of upd_same, rfl, _, _, rfl, _, _, rfl, _, _, rfl, _, _, rfl, _, _, rfl, rfl, ?_⟩
  have hF1 : (upd (upd H F (.lst [])) T0 (.tup [.ref F, .int 0, .int (-1), .int 0, .int 0])) F = some (.lst []) := by rw [upd_ne hFT]; exact upd_same
  generalize upd (upd H F (.lst [])) T0 (.tup [.ref F, .int 0, .int (-1), .int 0, .int 0]) = H1 at s1 hF1
  let rsu := rsQ qs
  let σ9 : Nat → Option Pc → Int → Int → Option V → Option V → L2.St := fun at_ m dz sz v7 v8 => [some (.ref L), some (.str (S t)), some (.ref F), some (.int (at_ : Int)), some (.int (hereI m)), some (.int dz), some (.int sz), v7, v8]
  refine ⟨fun σ' H' => ∃ (m : Option Pc) (f : Nat) (ps : List Pc) (vs : List V) (dz sz : Int) (v7 v8 : Option V), σ' = σ9 t.length m dz sz v7 v8 ∧ Same H H' ∧ H' F = some (.lst vs) ∧ PcsAt H' vs ps ∧ (∀ k d s, m = some (k, d, s) → sz = (s : Int)) ∧ pcsOf rsu t = ps ++ outL rsu (f + 1) m t.length [] ∧ ps.length ≤ 40000, ?_, ?_⟩
  · refine ⟨_, rfl, _, t.length, rfl, ⟨by rw [tlt]; exact szB (by omega), tlt.symm⟩, _, _, rfl, rfl, .inl ⟨by decide, by decide⟩, _, rfl, by omega, by omega, ?_⟩
    rw [show ((2 : Int) * (t.length : Int)).toNat = 2 * t.length by omega]
    refine for_range (lo := 0) (n := 2 * t.length) (fun i σ' H' => ∃ (at_ f : Nat) (m : Option Pc) (ps : List Pc) (vs : List V) (dz sz : Int) (v7 v8 : Option V), σ' = σ9 at_ m dz sz v7 v8 ∧ Same H H' ∧ H' F = some (.lst vs) ∧ PcsAt H' vs ps ∧ at_ ≤ t.length ∧ OkM rsu m ∧ (∀ k d s, m = some (k, d, s) → dz = (d : Int) ∧ sz = (s : Int) ∧ d ≤ i + 1) ∧ muL m (t.drop at_) < f ∧ pcsOf rsu t = ps ++ outL rsu f m at_ (t.drop at_) ∧ muL m (t.drop at_) + i ≤ 2 * t.length ∧ ps.length ≤ i)
      ⟨0, 2 * t.length + 2, none, [], [], 0, 0, none, none, rfl, s1, hF1, ⟨rfl, fun _ _ _ z => nomatch z⟩, Nat.zero_le _, trivial, (fun _ _ _ z => nomatch z), by rw [List.drop_zero]; show 2 * t.length + 0 < _; omega, by rw [List.drop_zero]; rfl, by rw [List.drop_zero]; show 2 * t.length + 0 + 0 ≤ _; omega, Nat.le_refl _⟩ ?_ ?_
    · rintro i σ H2 hi ⟨at_, f, m, ps, vs, dz, sz, v7, v8, rfl, s2, hF2, hps, hat, hm, hd, hf, hpc, hmu, hpl⟩
      refine ⟨_, rfl, _, rfl, _, t.length, rfl, ⟨by rw [tlt]; exact szB (by omega), tlt.symm⟩, _, _, rfl, rfl, _, rfl, ?_⟩
      obtain ⟨f, rfl⟩ : ∃ g, f = g + 1 := ⟨f - 1, by omega⟩
      by_cases hend : t.length ≤ at_
      · have e : at_ = t.length := by omega
        subst e
        rw [List.drop_length] at hpc
        exact ify (decide_eq_true (by omega)) ⟨m, f, ps, vs, dz, sz, _, _, rfl, s2, hF2, hps, fun k d s z => (hd k d s z).2.1, hpc, by omega⟩
      · refine ifn (decide_eq_false (by omega)) ?_
        have edrop : t.drop at_ = t[at_] :: t.drop (at_ + 1) := List.drop_eq_getElem_cons (by omega)
        have ld : (t.drop at_).length = t.length - at_ := List.length_drop ..
        have hne : t.drop at_ ≠ [] := fun z => by rw [z] at ld; simp at ld; omega
        match m, hm, hd, hf, hpc, hmu with
        | none, hm, hd, hf, hpc, hmu =>
          have hp := openL_pos okR hne
          refine ⟨_, rfl, _, _, rfl, rfl, _, rfl, ify (decide_eq_true (show (-1 : Int) < 0 by decide)) ?_⟩
          refine ⟨_, rfl, _, rfl, _, rfl, _, rfl, L, qs, t, at_, rfl, hL.same s2, ok, hat, htl, fun H3 b3 s3 hb3 => ?_⟩
          refine ⟨b3, _, rfl, SqT.of hb3, rfl, _, _, rfl, _, _, rfl, rfl, ?_⟩
          refine ⟨_, rfl, _, rfl, _, _, rfl, rfl, _, _, rfl, ?_⟩
          rw [outL_code hne] at hpc
          have his := openL_is rsu (t.drop at_)
          cases ho : openL rsu (t.drop at_) with
          | mk b w =>
            rw [ho] at hp hpc his
            have s3' : Same H H3 := fun c o z => s3 _ _ (s2 _ _ z)
            cases b with
            | none =>
              have hw : w = 1 := by
                rcases his with ⟨z, _⟩ | ⟨_, _, _, _, _, z, _⟩
                · exact congrArg Prod.snd z
                · cases congrArg Prod.fst z
              subst hw
              refine ⟨at_ + 1, f, none, ps, vs, 1, (at_ : Int), some (.int ((0 : Int) + (i : Int))), some (.int 1), ?_, s3', s3 _ _ hF2, hps.same (fun b xs z => s3 _ _ z), by omega, trivial, (fun _ _ _ z => nomatch z), ?_, ?_, ?_, by omega⟩
              · rfl
              · have : muL none (t.drop (at_ + 1)) = 2 * (t.drop (at_ + 1)).length + 0 := rfl
                have h1 : muL none (t.drop at_) = 2 * (t.drop at_).length + 0 := rfl
                rw [List.length_drop] at this h1
                omega
              · rw [hpc, List.drop_drop]
              · have : muL none (t.drop (at_ + 1)) = 2 * (t.drop (at_ + 1)).length + 0 := rfl
                have h1 : muL none (t.drop at_) = 2 * (t.drop at_).length + 0 := rfl
                rw [List.length_drop] at this h1
                omega
            | some k =>
              have hk := hp.2.2 k rfl
              rw [ld] at hp
              refine ⟨at_ + w, f, some (k, 1, at_), ps, vs, 1, (at_ : Int), some (.int ((0 : Int) + (i : Int))), some (.int (w : Int)), ?_, s3', s3 _ _ hF2, hps.same (fun b xs z => s3 _ _ z), by omega, ⟨hk, Nat.le_refl _⟩, (fun _ _ _ z => by cases z; exact ⟨rfl, rfl, by omega⟩), ?_, ?_, ?_, by omega⟩
              · rfl
              · have : muL (some (k, 1, at_)) (t.drop (at_ + w)) = 2 * (t.drop (at_ + w)).length + 1 := rfl
                have h1 : muL none (t.drop at_) = 2 * (t.drop at_).length + 0 := rfl
                rw [List.length_drop] at this h1
                omega
              · rw [hpc, ← List.drop_drop]
              · have : muL (some (k, 1, at_)) (t.drop (at_ + w)) = 2 * (t.drop (at_ + w)).length + 1 := rfl
                have h1 : muL none (t.drop at_) = 2 * (t.drop at_).length + 0 := rfl
                rw [List.length_drop] at this h1
                omega
        | some (k, dep, st), hm, hd, hf, hpc, hmu =>
          obtain ⟨rfl, rfl, hdi⟩ := hd k dep st rfl
          obtain ⟨hk, hd1⟩ := hm
          have hkq : k < qs.length := by rw [List.length_map] at hk; exact hk
          have hq : qs[k]? = some qs[k] := List.getElem?_eq_getElem hkq
          have hkr : k < rs.length := by omega
          have hv : rs[k]? = some rs[k] := List.getElem?_eq_getElem hkr
          have r7 := (hx k _ _ hv hq).tk fun b xs z => s2 _ _ z
          have hru : rsu[k]? = some (ruR qs[k]) := by show (qs.map ruR)[k]? = _; rw [List.getElem?_map, hq]; rfl
          rw [outL_in hne hru] at hpc
          have hp := stepL_pos (okR _ (List.mem_of_getElem? hru)) hne hd1
          have hdp := stepL_depP (ruR qs[k]) (t.drop at_) dep
          generalize qs[k] = r at *
          generalize rs[k] = rv at *
          refine ⟨_, rfl, _, _, rfl, rfl, _, rfl, ifn (decide_eq_false (show ¬ ((k : Int) < 0) by omega)) ?_⟩
          refine ⟨_, rfl, _, rfl, L, rs, _, _, rfl, rfl, SqL.of (s2 _ _ hr), atI_nat hv, _, rfl, _, rfl, _, rfl, rv, r, t, at_, dep, rfl, r7, by omega, htl, hd1, by omega, fun H3 b3 s3 hb3 => ?_⟩
          refine ⟨b3, _, rfl, SqT.of hb3, rfl, _, _, rfl, _, _, rfl, rfl, ?_⟩
          rw [ld] at hp
          generalize hst : stepL (ruR r) (t.drop at_) dep = wd at hp hdp hpc hb3 ⊢
          obtain ⟨w, d'⟩ := wd
          dsimp only at hp hdp hpc hb3 ⊢
          have s3' : Same H H3 := fun c o z => s3 _ _ (s2 _ _ z)
          have ew : (at_ : Int) + (w : Int) = ((at_ + w : Nat) : Int) := by omega
          refine ⟨_, rfl, _, rfl, _, _, rfl, rfl, _, rfl, rfl, _, rfl, ?_⟩
          have hF3 := s3 _ _ hF2
          have hwl : at_ + w ≤ t.length := by
            rcases hp with z | z
            · omega
            · have : w = 0 := congrArg Prod.fst z
              omega
          have m1 : muL (some (k, dep, st)) (t.drop at_) = 2 * (t.drop at_).length + 1 := rfl
          rw [ld] at m1
          by_cases h0 : d' = 0
          · rw [if_pos h0] at hpc
            refine ify (decide_eq_true (by rw [h0]; rfl)) ?_
            refine ⟨_, rfl, .inl ⟨rfl, _, SqL.of hF3⟩, _, rfl, _, rfl, _, rfl, szB (show 3 ≤ 1000000 by decide), fun R hR => ?_⟩
            have hF4 : (upd H3 R (.tup [.int (k : Int), .int (st : Int), .int ((at_ : Int) + (w : Int))])) F = some (.lst vs) := by rw [upd_ne (ne_of_none hF3 hR)]; exact hF3
            refine ⟨F, _, _, rfl, rfl, hF4, szL (by rw [hps.1]; omega), _, rfl, ?_⟩
            have hFH : H F = none := hF
            refine ⟨at_ + w, f, none, ps ++ [(k, st, at_ + w)], vs ++ [.ref R], (d' : Int), (st : Int), some (.int ((0 : Int) + (i : Int))), some (.int (w : Int)), ?_, ?_, upd_same, ?_, hwl, trivial, (fun _ _ _ z => nomatch z), ?_, ?_, ?_, by rw [List.length_append]; show ps.length + 1 ≤ i + 1; omega⟩
            · show [_, _, _, some (V.int ((at_ : Int) + (w : Int))), _, _, _, _, _] = _
              rw [ew]; rfl
            · exact fun c o z => by
                have hn : c ≠ F := fun y => by rw [y, hFH] at z; cases z
                rw [upd_ne hn]; exact same1 hR _ _ _ (s3' _ _ z)
            · have hp4 : PcsAt (upd (upd H3 R (.tup [.int (k : Int), .int (st : Int), .int ((at_ : Int) + (w : Int))])) F (.lst (vs ++ [.ref R]))) vs ps := hps.same fun b xs z => by
                have z3 := s3 _ _ z
                have hn : b ≠ F := fun y => by rw [y, hF3] at z3; cases z3
                rw [upd_ne hn]; exact same1 hR _ _ _ z3
              refine hp4.snoc ?_
              have hRF : R ≠ F := fun y => by rw [y, hF3] at hR; cases hR
              rw [upd_ne hRF, upd_same, ew]; rfl
            · have : muL none (t.drop (at_ + w)) = 2 * (t.drop (at_ + w)).length + 0 := rfl
              rw [List.length_drop] at this
              omega
            · rw [hpc, List.drop_drop, List.append_assoc]; rfl
            · have : muL none (t.drop (at_ + w)) = 2 * (t.drop (at_ + w)).length + 0 := rfl
              rw [List.length_drop] at this
              omega
          · rw [if_neg h0] at hpc
            have hw1 : 1 ≤ w := (hp.resolve_right fun z => h0 (congrArg Prod.snd z)).1
            refine ifn (decide_eq_false (fun z => h0 (by have := V.int.inj z; omega))) ?_
            refine ⟨at_ + w, f, some (k, d', st), ps, vs, (d' : Int), (st : Int), some (.int ((0 : Int) + (i : Int))), some (.int (w : Int)), ?_, s3', hF3, hps.same (fun b xs z => s3 _ _ z), hwl, ⟨hk, by omega⟩, (fun _ _ _ z => by cases z; exact ⟨rfl, rfl, by omega⟩), ?_, ?_, ?_, by omega⟩
            · show [_, _, _, some (V.int ((at_ : Int) + (w : Int))), _, _, _, _, _] = _
              rw [ew]; rfl
            · have : muL (some (k, d', st)) (t.drop (at_ + w)) = 2 * (t.drop (at_ + w)).length + 1 := rfl
              rw [List.length_drop] at this
              omega
            · rw [hpc, List.drop_drop]
            · have : muL (some (k, d', st)) (t.drop (at_ + w)) = 2 * (t.drop (at_ + w)).length + 1 := rfl
              rw [List.length_drop] at this
              omega
    · rintro σ H2 ⟨at_, f, m, ps, vs, dz, sz, v7, v8, rfl, s2, hF2, hps, hat, hm, hd, hf, hpc, hmu, hpl⟩
      have h0 : muL m (t.drop at_) = 0 := by omega
      have ld : (t.drop at_).length = t.length - at_ := List.length_drop ..
      have e : at_ = t.length := by
        have : 2 * (t.drop at_).length ≤ muL m (t.drop at_) := by cases m <;> (unfold muL; dsimp only; omega)
        omega
      subst e
      obtain ⟨f, rfl⟩ : ∃ g, f = g + 1 := ⟨f - 1, by omega⟩
      rw [List.drop_length] at hpc
      exact ⟨m, f, ps, vs, dz, sz, _, _, rfl, s2, hF2, hps, fun k d s z => (hd k d s z).2.1, hpc, by omega⟩
  rintro σ' H2 ⟨m, f, ps, vs, dz, sz, v7, v8, rfl, s2, hF2, hps, hsz, hpc, hpl⟩
  have hr2 := s2 _ _ hr
  refine ⟨_, rfl, _, rfl, _, _, rfl, rfl, _, rfl, ?_⟩
  have fin : ∀ (Y : Addr) (ys : List V) (qp : List Pc) (H3 : Hp), Same H H3 → H3 F = some (.lst vs) → H3 Y = some (.lst ys) → PcsAt H3 vs ps → PcsAt H3 ys qp → qp.length ≤ 1 → pcsOf rsu t = ps ++ qp → rCat (.ref F) (.ref Y) H3 fun x H4 => tCons (tVar 4) tNil (σ9 t.length m dz sz v7 v8) H4 fun us H5 => (x :: us).length ≤ sizeLine ∧ ∀ R, H5 R = none → Q (.ref R) (upd H5 R (.tup (x :: us))) := fun Y ys qp H3 s3 hF3 hY hp3 hq3 hl3 he => by
    refine ⟨F, Y, _, _, rfl, rfl, hF3, hY, szB (by rw [hp3.1, hq3.1]; omega), fun D hD => ?_⟩
    refine ⟨_, rfl, szB (show 2 ≤ 1000000 by decide), fun R hR => ?_⟩
    have s4 := same_new (same_new s3 hD (.lst (vs ++ ys))) hR (.tup [.ref D, .int (hereI m)])
    have sk : Tk H3 (upd (upd H3 D (.lst (vs ++ ys))) R (.tup [.ref D, .int (hereI m)])) := fun b xs z => same1 hR _ _ _ (same1 hD _ _ _ z)
    refine q _ R D _ s4 upd_same ⟨vs ++ ys, ?_, ?_, ?_⟩
    · have : D ≠ R := ne_of_none upd_same hR
      rw [upd_ne this]; exact upd_same
    · rw [List.length_append, hp3.1, hq3.1, he, List.length_append]
    · intro j v p h1 h2
      rw [he] at h2
      have p4 := hp3.same sk
      have q4 := hq3.same sk
      rcases Nat.lt_or_ge j vs.length with c | c
      · rw [List.getElem?_append_left c] at h1
        rw [List.getElem?_append_left (by rw [← hp3.1]; exact c)] at h2
        exact p4.2 j v p h1 h2
      · rw [List.getElem?_append_right c] at h1
        rw [List.getElem?_append_right (by rw [← hp3.1]; exact c), ← hp3.1] at h2
        exact q4.2 _ v p h1 h2
  match m, hsz, hpc with
  | none, hsz, hpc =>
    refine ifn (decide_eq_false (show ¬ ((0 : Int) ≤ -1) by decide)) ⟨szB (show 0 ≤ 1000000 by decide), fun Y hY => ?_⟩
    exact fin Y [] [] _ (same_new s2 hY _) (by rw [upd_ne (ne_of_none hF2 hY)]; exact hF2) upd_same (hps.same fun b xs z => same1 hY _ _ _ z) ⟨rfl, fun _ _ _ z => nomatch z⟩ (Nat.zero_le _) hpc
  | some (k, d, st), hsz, hpc =>
    have := hsz k d st rfl
    subst this
    refine ify (decide_eq_true (show (0 : Int) ≤ (k : Int) by omega)) ⟨_, rfl, _, rfl, _, rfl, _, t.length, rfl, ⟨by rw [tlt]; exact szB (by omega), tlt.symm⟩, szB (show 3 ≤ 1000000 by decide), fun T1 hT1 => ⟨szB (show 1 ≤ 1000000 by decide), fun Y hY => ?_⟩⟩
    have sT := same1 hT1 (.tup [.int (k : Int), .int (st : Int), .int (t.length : Int)])
    have sY := same1 hY (.lst [.ref T1])
    refine fin Y [.ref T1] [(k, st, t.length)] _ (fun b o z => sY _ _ (sT _ _ (s2 _ _ z))) (sY _ _ (sT _ _ hF2)) upd_same (hps.same fun b xs z => sY _ _ (sT _ _ z)) ?_ (Nat.le_refl _) hpc
    refine ⟨rfl, fun j v p x y => ?_⟩
    cases j with
    | zero => cases x; cases y; exact ⟨T1, rfl, sY _ _ upd_same⟩
    | succ j => cases x

end
end Vf

set_option maxRecDepth 100000
set_option maxHeartbeats 4000000
namespace Vf
open PySem PySem.Spec PyProof.Rows L2 SX
section
variable {P : Program} {w : World} {K : PySem.W.Frag} {mg : Str → Option Value} {base : Heap}
def PcCh (nr N : Nat) : Nat → List Pc → Prop
  | q, [] => q ≤ N
  | q, (k, s, e) :: r => q ≤ s ∧ s ≤ e ∧ e ≤ N ∧ k < nr ∧ PcCh nr N e r
theorem outL_chain {rs : List Ru} (ok : ∀ r ∈ rs, RuOk r) : ∀ (f : Nat) (m : Option Pc) (p : Nat) (t : List Nat) (q N : Nat), p + t.length = N → OkM rs m → (match m with | none => q ≤ p | some (_, _, s) => q ≤ s ∧ s ≤ p) → PcCh rs.length N q (outL rs f m p t) := by
  intro f
  induction f with
  | zero =>
    intro m p t q N hN hm hq
    show q ≤ N
    match m, hq with
    | none, hq => have : q ≤ p := hq; omega
    | some (k, d, s), hq => have : q ≤ s ∧ s ≤ p := hq; omega
  | succ f ih =>
    intro m p t q N hN hm hq
    match m, hm, hq with
    | none, hm, hq =>
      have hq : q ≤ p := hq
      by_cases ht : t = []
      · subst ht; show q ≤ N; omega
      · rw [outL_code ht]
        have hp := openL_pos ok ht
        cases ho : openL rs t with
        | mk b w =>
          rw [ho] at hp
          have l1 : 1 ≤ t.length := List.length_pos_iff.mpr ht
          cases b with
          | none => exact ih none (p + 1) (t.drop 1) q N (by rw [List.length_drop]; omega) trivial (show q ≤ p + 1 by omega)
          | some k => exact ih (some (k, 1, p)) (p + w) (t.drop w) q N (by rw [List.length_drop]; have := hp.2.1; omega) ⟨hp.2.2 k rfl, Nat.le_refl _⟩ (show q ≤ p ∧ p ≤ p + w by omega)
    | some (k, d, s), hm, hq =>
      have hq : q ≤ s ∧ s ≤ p := hq
      by_cases ht : t = []
      · subst ht
        show q ≤ s ∧ s ≤ p ∧ p ≤ N ∧ k < rs.length ∧ p ≤ N
        have : p + 0 = N := hN
        exact ⟨hq.1, hq.2, by omega, hm.1, by omega⟩
      · rw [outL_in ht (List.getElem?_eq_getElem hm.1)]
        have hk : k < rs.length := hm.1
        have hr := ok rs[k] (List.getElem_mem hk)
        have hp := stepL_pos hr ht hm.2
        generalize stepL (rs[k]'hm.1) t d = wd at hp
        obtain ⟨w, d'⟩ := wd
        dsimp only at hp ⊢
        have hw : w ≤ t.length := by
          rcases hp with z | z
          · exact z.2
          · have : w = 0 := congrArg Prod.fst z
            omega
        by_cases h0 : d' = 0
        · rw [if_pos h0]
          exact ⟨hq.1, by omega, by omega, hm.1, ih none (p + w) (t.drop w) (p + w) N (by rw [List.length_drop]; omega) trivial (Nat.le_refl _)⟩
        · rw [if_neg h0]
          exact ih (some (k, d', s)) (p + w) (t.drop w) q N (by rw [List.length_drop]; omega) ⟨hm.1, by omega⟩ (show q ≤ s ∧ s ≤ p + w by omega)
theorem chain_at {nr N : Nat} : ∀ {ps : List Pc} {q i : Nat} {k s e : Nat}, PcCh nr N q ps → ps[i]? = some (k, s, e) → s ≤ e ∧ e ≤ N ∧ k < nr
  | [], _, _, _, _, _, _, h => by cases h
  | (k, s, e) :: r, q, 0, _, _, _, h, h2 => by cases h2; exact ⟨h.2.1, h.2.2.1, h.2.2.2.1⟩
  | (k, s, e) :: r, q, i + 1, _, _, _, h, h2 => chain_at (ps := r) h.2.2.2.2 h2
theorem ok_lawKinds {f : Addr} {fd : FuncData} (F : C8.Def K mg "_law_kinds" s_lawKinds f fd) (b : Binds K fd ["_law_rules", "_law_text"] []) (T : Tx K w mg) (C_lawPieces : C8.Cal P w K mg base 2 "_law_pieces" sp_lawPieces []) : C8.Cal P w K mg base 3 "_law_kinds" sp_lawKinds [] := by
  refine C8.cal0 F b .nil sc_lawKinds (fun vs H Q E h => ?_) (fun cdv A outer s H vs Q E hr h => ?_)
  · obtain ⟨_, _, _, rfl, _⟩ := h; rfl
  have hu := hu_of hr
  refine ⟨_, (pss_cons (ps_asg (pe_tup (pa_cons pe_str (pa_cons pe_int pa_nil))) (pg_tup (by rfl) (pgs_cons (pg_name (i := 2) sc_lawKinds.nd rfl (Or.inl rfl)) (pgs_cons (pg_name (i := 3) sc_lawKinds.nd rfl (Or.inl rfl)) pgs_nil))))
      (pss_cons (ps_for PassesOwn.never rfl (pi_list (pe_ix ix_tup (C8.pe_c C_lawPieces hr (by decide) rfl (pa_cons (pv 0) (pa_cons (pv 1) pa_nil))) pe_int (fun _ _ => rfl))) (pg_tup rfl (pgs_cons (pg_name (i := 4) sc_lawKinds.nd rfl (Or.inl rfl)) (pgs_cons (pg_name (i := 5) sc_lawKinds.nd rfl (Or.inl rfl)) (pgs_cons (pg_name (i := 6) sc_lawKinds.nd rfl (Or.inl rfl)) pgs_nil))))
      (pss_cons (ps_set (i := 2) sc_lawKinds.nd rfl (Or.inl rfl) (pe_op op_add_str (pv 2) (pe_op op_rep_str pe_str (pe_op op_sub (pv 5) (pv 3)))))
      (pss_one (ps_par (i := 2) (j := 3) (by rfl) sc_lawKinds.nd rfl rfl (by decide) rfl rfl (pa_cons (pe_op op_add_str (pv 2) (pe_op op_rep_str (pe_ix ix_str (pe_ix ix_tup (pe_ix ix_list (pv 0) (pv 4) (fun _ _ => rfl)) pe_int (fun _ _ => rfl)) pe_int (fun _ _ => rfl)) (pe_op op_sub (pv 6) (pv 5)))) (pa_cons (pv 6) pa_nil)) (by rfl)))))
      (pss_one (ps_ret (pe_op op_add_str (pv 2) (pe_op op_rep_str pe_str (pe_op op_sub (pe_callB call_len (by rfl) T.z_len PySem.boot_len (pa_cons (pv 1) pa_nil)) (pv 3)))))))), ?_⟩

  obtain ⟨L, qs, t, rfl, hL, ok, htl, q⟩ := h
  obtain ⟨rs, hr, hl, hx⟩ := id hL
  have tlt : (S t).length = t.length := S_len t
  have okR := ok.ok
  refine ⟨szB (show 2 ≤ 1000000 by decide), fun T0 hT0 => ?_⟩
  have s0 := same1 hT0 (.tup [.str "", .int 0])
  refine ⟨T0, _, rfl, SqT.of upd_same, rfl, _, _, rfl, _, _, rfl, rfl, ?_⟩
  refine ⟨_, rfl, _, rfl, L, qs, t, rfl, hL.same s0, ok, htl, fun H1 b1 F i1 s1 hb1 hF => ?_⟩
  obtain ⟨vs, hF1, hvl, hpc⟩ := hF
  refine ⟨b1, _, 0, _, rfl, rfl, SqT.of hb1, rfl, ?_⟩
  let rsu := rsQ qs
  let ps := pcsOf rsu t
  have hch : PcCh rsu.length t.length 0 ps := outL_chain okR _ none 0 t 0 t.length (Nat.zero_add _) trivial (Nat.le_refl _)
  have hkd : kindsOf rsu t.length 0 ps = kdsOf rsu t := kinds_rd okR t (by omega)
  have sk : Same H H1 := fun b o z => s1 _ _ (s0 _ _ z)
  have hqt : ∀ H' : Hp, Same H1 H' → Q (.str (S (kindsOf rsu t.length 0 ps))) H' := fun H' s => by rw [hkd]; exact q H' fun b o z => s _ _ (sk _ _ z)
  have hvl' : vs.length = ps.length := hvl
  have hpc' : ∀ (j : Nat) (v : V) (p : Pc), vs[j]? = some v → ps[j]? = some p → ∃ b, v = .ref b ∧ H1 b = some (.tup (pcV p)) := hpc
  have h99 : ("c" : Str) = S [99] := by decide +kernel
  have hnr : rsu.length = qs.length := List.length_map ..
  generalize ps = pz at hch hqt hvl' hpc'
  refine ⟨F, rfl, ⟨_, SqL.of hF1⟩, ?_⟩
  refine for_list (K := K) (a := F) (xs := vs) (fun i σ H' => H' = H1 ∧ ∃ (acc : List Nat) (at_ : Nat) (v4 v5 v6 : Option V), σ = [some (.ref L), some (.str (S t)), some (.str (S acc)), some (.int (at_ : Int)), v4, v5, v6] ∧ kindsOf rsu t.length 0 pz = acc ++ kindsOf rsu t.length at_ (pz.drop i) ∧ PcCh rsu.length t.length at_ (pz.drop i) ∧ acc.length = at_)
    ⟨rfl, [], 0, none, none, none, rfl, rfl, hch, rfl⟩ (fun i σ H' _ z => by obtain ⟨rfl, _⟩ := z; exact SqL.of hF1) ?_ ?_
  · rintro i v σ H2 hv ⟨rfl, acc, at_, v4, v5, v6, rfl, hkk, hcc, hal⟩
    have hi : i < pz.length := by rw [← hvl']; exact (List.getElem?_eq_some_iff.mp hv).1
    have hp : pz[i]? = some pz[i] := List.getElem?_eq_getElem hi
    have hd : pz.drop i = pz[i] :: pz.drop (i + 1) := List.drop_eq_getElem_cons hi
    obtain ⟨b, rfl, hb⟩ := hpc' i v _ hv hp
    generalize pz[i] = pc at hb hd
    obtain ⟨k, st, e⟩ := pc
    rw [hd] at hkk hcc
    obtain ⟨c1, c2, c3, c4, c5⟩ := hcc
    have c6 : at_ ≤ t.length := by omega
    rw [hnr] at c4
    have hq : qs[k]? = some qs[k] := List.getElem?_eq_getElem c4
    have hkr : k < rs.length := by omega
    have hrv : rs[k]? = some rs[k] := List.getElem?_eq_getElem hkr
    obtain ⟨a, ea, ha, ro⟩ := (hx k _ _ hrv hq).tk fun b xs z => sk _ _ z
    rw [ea] at hrv
    have hkOf : kOf rsu k = if qs[k].k = "remark" then 114 else 113 := by
      unfold kOf
      show (match (qs.map ruR)[k]? with | some r => r.k | none => 0) = _
      rw [List.getElem?_map, hq]; rfl
    generalize qs[k] = r at ha ro hkOf
    have r1 : (S [99]).length = 1 := rfl
    refine ⟨b, _, rfl, SqT.of hb, rfl, _, _, rfl, _, _, rfl, _, _, rfl, rfl, ?_⟩
    refine ⟨_, rfl, _, rfl, _, rfl, _, _, rfl, rfl, [99], st - at_, congrArg V.str h99, congrArg V.int (show (st : Int) - (at_ : Int) = ((st - at_ : Nat) : Int) by omega), by omega, by show 1 * (st - at_) ≤ 1000000; omega, ?_⟩
    rw [repL_one]
    refine ⟨_, _, rfl, rfl, szB (by rw [S_len, S_len, List.length_replicate]; omega), ?_⟩
    rw [S_cat]
    have hkc : atI r.k.cps.toList 0 = some (if r.k = "remark" then 114 else 113) := kind_at2 ro.hk
    have hkl : r.k.length ≤ 1000000 := by rcases ro.hk with z | z <;> rw [z] <;> decide +kernel
    refine ⟨_, rfl, _, rfl, _, rfl, L, rs, _, _, rfl, rfl, SqL.of (sk _ _ hr), atI_nat hrv, a, _, 0, _, rfl, rfl, SqT.of ha, rfl, r.k, 0, _, rfl, rfl, szB hkl, hkc, ?_⟩
    refine ⟨_, rfl, _, rfl, _, _, rfl, rfl, [if r.k = "remark" then 114 else 113], e - st, rfl, congrArg V.int (show (e : Int) - (st : Int) = ((e - st : Nat) : Int) by omega), by omega, by show 1 * (e - st) ≤ 1000000; omega, ?_⟩
    rw [repL_one]
    refine ⟨_, _, rfl, rfl, szB (by rw [S_len, S_len, List.length_replicate, List.length_append, List.length_replicate]; omega), ?_⟩
    rw [S_cat]
    refine ⟨_, rfl, _, _, rfl, rfl, acc ++ List.replicate (st - at_) 99 ++ List.replicate (e - st) (if r.k = "remark" then 114 else 113), e, _, _, _, rfl, ?_, c5, ?_⟩
    · rw [hkk]
      show acc ++ (List.replicate (st - at_) 99 ++ List.replicate (e - st) (kOf rsu k) ++ kindsOf rsu t.length e (pz.drop (i + 1))) = _
      rw [hkOf]
      simp only [List.append_assoc]
    · rw [List.length_append, List.length_append, List.length_replicate, List.length_replicate]; omega
  · rintro σ H2 ⟨rfl, acc, at_, v4, v5, v6, rfl, hkk, hcc, hal⟩
    have hd : pz.drop vs.length = [] := List.drop_eq_nil_of_le (by omega)
    rw [hd] at hkk hcc
    have c6 : at_ ≤ t.length := hcc
    refine ⟨_, rfl, _, rfl, _, t.length, rfl, ⟨by rw [tlt]; exact szB (by omega), tlt.symm⟩, _, rfl, _, _, rfl, rfl, [99], t.length - at_, congrArg V.str h99, congrArg V.int (show (t.length : Int) - (at_ : Int) = ((t.length - at_ : Nat) : Int) by omega), by omega, by show 1 * (t.length - at_) ≤ 1000000; omega, ?_⟩
    rw [repL_one]
    refine ⟨_, _, rfl, rfl, szB (by rw [S_len, S_len, List.length_replicate]; omega), ?_⟩
    rw [S_cat]
    have := hqt H2 fun _ _ z => z
    rw [hkk] at this
    exact this

end
end Vf

set_option maxRecDepth 100000
set_option maxHeartbeats 4000000
namespace Vf
open PySem PySem.Spec PyProof.Rows L2 SX
section
variable {P : Program} {w : World} {K : PySem.W.Frag} {mg : Str → Option Value} {base : Heap}
def mkKey (H : Hp) : V → Int
  | .ref t => match H t with
    | some (.tup (.str x :: _)) => -(x.length : Int)
    | _ => 0
  | _ => 0
theorem mkKey_at {H : Hp} {t : Addr} {x : Str} {r : List V} (h : H t = some (.tup (.str x :: r))) : mkKey H (.ref t) = -(x.length : Int) := by
  show (match H t with | some (.tup (.str x :: _)) => -(x.length : Int) | _ => 0) = _
  rw [h]
theorem ok2_longestFirst {f : Addr} {fd : FuncData} {P0 cc : Addr} (F : FunC K mg "longest_first" s_longestFirst f fd cc) (b : Binds K fd ["marks"] []) (T : Tx K w mg) (TB : LamX.TabB base mg cc P0) : C8.Cal P w K mg base 4 "longest_first" (sp2_longestFirst K P0) [] := by
  refine cal0c F b sc_longestFirst (fun vs H Q E h => ?_) (fun A outer s H vs Q E hr h => ?_)
  · obtain ⟨a, xs, ks, rfl, _⟩ := h; rfl
  have hu := hu_of hr
  refine ⟨_, (pss_one (ps_ret (pe_callTy call_tuple_of (by rfl) T.z_tuple (by decide +kernel) (pa_cons (pe_sortedK (k := 0) (T := [(P0, lamQ)]) (x := "mark") (N := ["mark"]) (by rfl) T.z_sorted TB rfl (List.mem_singleton.mpr rfl) (fun p hp _ => by rw [List.mem_singleton.mp hp]; rfl) (hr.mono (by decide)) (C8.fnScope_by (by decide +kernel)) rfl (fun _ _ _ _ _ _ => rfl) (fun A outer s H f c' hr => (pe_un un_neg (pe_callB (call_lenK (K := K) rfl) (by rfl) T.z_len PySem.boot_len (pa_cons (pe_ix (ix_tupK (K := K) rfl) (pv 0) pe_int (fun _ _ => rfl)) pa_nil)))) (pa_cons (pv 0) pa_nil)) pa_nil)))), ?_⟩

  obtain ⟨a, xs, ks, rfl, ha, hz, hm, hlen, tb, q⟩ := h
  have at_mem : ∀ y ∈ xs, ∃ k ∈ ks, MkAt K H y k := fun y hy => by
    obtain ⟨j, hj, rfl⟩ := List.mem_iff_getElem.mp hy
    have hj2 : j < ks.length := by rw [← hm.1]; exact hj
    exact ⟨ks[j], List.getElem_mem hj2, hm.2 j _ _ (List.getElem?_eq_getElem hj) (List.getElem?_eq_getElem hj2)⟩
  refine ⟨_, rfl, a, xs, mkKey H, rfl, ha, hz, tb, fun H2 e2 y hy => ?_, fun H2 D ys e2 tb2 hD pm ps => ?_⟩
  · obtain ⟨k, hk, t, u, rfl, ht, _⟩ := at_mem y hy
    have hx := hlen k hk
    have ht2 := e2 _ _ ht (fun _ z => nomatch z)
    refine ⟨_, rfl, t, _, 0, .str k.1, rfl, rfl, SqT.of ht2, rfl, _, k.1.length, rfl, ⟨szB (by omega), rfl⟩, _, rfl, ?_, rfl⟩
    show V.int (-(k.1.length : Int)) = V.int (mkKey H (.ref t))
    exact congrArg V.int (mkKey_at ht).symm
  · refine ⟨D, ys, rfl, .inl ⟨SqL.of upd_same, fun l hl => ?_⟩⟩
    obtain ⟨zs, rfl, zp, zm⟩ := mks_perm hm pm
    have ex : LamX.ExtN H (upd (upd H2 D (.lst (zs.map Prod.fst))) l (.tup (zs.map Prod.fst))) := fun b o z n => by
      have z2 := e2 b o z n
      have z3 : (upd H2 D (.lst (zs.map Prod.fst))) b = some o := by rw [upd_ne (ne_of_none z2 hD)]; exact z2
      rw [upd_ne (ne_of_none z3 hl)]
      exact z3
    refine q _ l _ (zs.map Prod.snd) ex ((tb2.ext (same1 hD _)).ext (same1 hl _)) upd_same zp ?_ (mks_of fun z hz => (zm z hz).ext ex)
    rw [List.pairwise_map] at ps ⊢
    refine ps.imp_of_mem fun {x y} hx hy h => ?_
    obtain ⟨t, u, e, h1, _⟩ := zm x hx
    obtain ⟨t', u', e', h1', _⟩ := zm y hy
    rw [e, e', mkKey_at h1, mkKey_at h1'] at h
    omega

end
end Vf

set_option maxRecDepth 100000
set_option maxHeartbeats 4000000
namespace Vf
open PySem PySem.Spec PyProof.Rows L2 SX
section
variable {P : Program} {w : World} {K : PySem.W.Frag} {mg : Str → Option Value} {base : Heap}
theorem strs_vals {Pz : Str → Prop} : ∀ {xs : List V}, (∀ v ∈ xs, ∃ z : Str, v = .str z ∧ Pz z) → ∃ zs : List Str, xs = zs.map V.str ∧ ∀ z ∈ zs, Pz z
  | [], _ => ⟨[], rfl, fun _ h => nomatch h⟩
  | v :: xs, h => by
    obtain ⟨z, rfl, hz⟩ := h v (.head _)
    obtain ⟨zs, rfl, h2⟩ := strs_vals (xs := xs) fun u hu => h u (.tail _ hu)
    exact ⟨z :: zs, rfl, fun y hy => (List.mem_cons.mp hy).elim (fun e => by rw [e]; exact hz) (h2 y)⟩
theorem ok_markedText {f : Addr} {fd : FuncData} (F : C8.Def K mg "_law_marked_text" s_markedText f fd) (b : Binds K fd ["_law_pen_here", "_law_rules", "_law_most"] []) (T : Tx K w mg) (C_ruleWords : C8.Cal P w K mg base 1 "_law_rule_words" sp_ruleWords []) (C_draw : C8.Cal P w K mg base 1 "_law_draw" sp_draw []) (C_tongueSigns : C8.Cal P w K mg base 2 "_law_tongue_signs" sp_tongueSigns []) (C_pick : C8.Cal P w K mg base 2 "_law_pick" sp_pick []) : C8.Cal P w K mg base 3 "_law_marked_text" sp_markedText [] := by
  refine C8.cal0 F b .nil sc_markedText (fun vs H Q E h => ?_) (fun cdv A outer s H vs Q E hr h => ?_)
  · obtain ⟨_, _, _, _, _, _, rfl, _⟩ := h; rfl
  have hu := hu_of hr
  refine ⟨_, (pss_cons (ps_set (i := 3) sc_markedText.nd rfl (Or.inr rfl) (C8.pe_c C_ruleWords hr (by decide) rfl (pa_cons (pv 1) pa_nil)))
      (C8.pss_cut (ps_if (pt_cmpR op_eq (C8.pe_c C_draw hr (by decide) rfl (pa_cons (pv 0) (pa_cons pe_int pa_nil))) pe_int (nomark _))
      (pss_one (ps_set (i := 3) sc_markedText.nd rfl (Or.inr rfl) (C8.pe_c C_tongueSigns hr (by decide) rfl (pa_cons (pv 1) pa_nil))))
      pss_nil)
      (pss_cons (ps_set (i := 3) sc_markedText.nd rfl (Or.inr rfl) (pe_op op_cat (pv 3) (pe_lst (pa_cons pe_str (pa_cons pe_str (pa_cons pe_str (pa_cons pe_str (pa_cons pe_str pa_nil))))))))
      (pss_one (ps_ret (pe_join pe_str (pe_lc (own := [("_law_k", 4)]) (g := (gName 4)) (tt := tYes) rfl sc_markedText.nd (pi_range1 (by rfl) T.z_range (pa_cons (C8.pe_c C_draw hr (by decide) rfl (pa_cons (pv 0) (pa_cons (pe_op op_add (pv 2) pe_int) pa_nil))) pa_nil)) (blkOk_by (N := N_markedText) (sc := C8.fnScope s_markedText) (by decide +kernel)) (fun _ _ _ _ _ => pg_name (i := 4) sc_markedText.nd rfl (Or.inl rfl)) (fun _ _ _ _ _ => pts_nil) (fun _ _ _ _ _ => (C8.pe_c C_pick hr (by decide) rfl (pa_cons (pv 0) (pa_cons (pv 3) pa_nil))))))))))), ?_⟩

  obtain ⟨p, c, L, m, n, qs, rfl, hp, hm, hn, hL, ok, q⟩ := h
  refine ⟨_, rfl, L, qs, rfl, hL, ok, fun H1 W ws s1 hW h1 l1 l2 mk => ?_⟩
  have hp1 := hp.same s1
  have hL1 := hL.same s1
  refine ⟨fun σ' H' => ∃ (W2 : Addr) (ws2 : List Str), σ' = [some (.ref p), some (.ref L), some (.int (n : Int)), some (.ref W2), none] ∧ Ks H1 H' ∧ PenAt H' p c (m + 1) ∧ H' W2 = some (.lst (ws2.map V.str)) ∧ ws2.length ≤ 200 ∧ ∀ x ∈ ws2, x.length ≤ 4 ∧ Sm x, ?_, ?_⟩
  · refine ⟨_, rfl, p, c, m, 2, rfl, hp1, by omega, by decide, by decide, fun H2 r k2 p2 hr2 => ?_⟩
    refine ⟨rfl, _, rfl, ?_⟩
    by_cases h0 : r = 0
    · refine ify (by rw [h0]; rfl) ?_
      refine ⟨_, rfl, L, qs, rfl, hL1.ks k2, ok, fun H3 W3 ws3 s3 h3 l3 l4 => ?_⟩
      exact ⟨W3, ws3, rfl, k2.trans (Ks.of s3), p2.same s3, h3, l3, fun x hx => ⟨by rw [(l4 x hx).1]; decide, (l4 x hx).2⟩⟩
    · refine ifn (decide_eq_false (fun z => h0 (by have := V.int.inj z; omega))) ⟨W, ws, rfl, k2, p2, k2.lst h1, by omega, fun x hx => ⟨(mk_len (mk x hx)).2, mk_sm (mk x hx)⟩⟩
  rintro σ' H2 ⟨W2, ws2, rfl, k2, p2, h2, l3, l4⟩
  refine ⟨_, rfl, szB (show 5 ≤ 1000000 by decide), fun A5 hA5 => ?_⟩
  have h25 : (upd H2 A5 (.lst [.str "a", .str "b", .str " ", .str "\n", .str "\n"])) W2 = some (.lst (ws2.map V.str)) := by rw [upd_ne (ne_of_none h2 hA5)]; exact h2
  refine ⟨W2, A5, _, _, rfl, rfl, h25, upd_same, szB (by rw [List.length_map]; show ws2.length + 5 ≤ 1000000; omega), fun B hB => ?_⟩
  have s5 : Same H2 (upd (upd H2 A5 (.lst [.str "a", .str "b", .str " ", .str "\n", .str "\n"])) B (.lst (ws2.map V.str ++ [.str "a", .str "b", .str " ", .str "\n", .str "\n"]))) := same_new (same1 hA5 _) hB _
  have hB2 : (upd (upd H2 A5 (.lst [.str "a", .str "b", .str " ", .str "\n", .str "\n"])) B (.lst (ws2.map V.str ++ [.str "a", .str "b", .str " ", .str "\n", .str "\n"]))) B = some (.lst ((ws2 ++ (["a", "b", " ", "\n", "\n"] : List Str)).map V.str)) := by rw [upd_same, List.map_append]; rfl
  generalize upd (upd H2 A5 (.lst [.str "a", .str "b", .str " ", .str "\n", .str "\n"])) B (.lst (ws2.map V.str ++ [.str "a", .str "b", .str " ", .str "\n", .str "\n"])) = H3 at s5 hB2 ⊢
  have p3 := p2.same s5
  have l5 : ∀ x ∈ ws2 ++ (["a", "b", " ", "\n", "\n"] : List Str), x.length ≤ 4 ∧ Sm x := fun x hx => by
    rcases List.mem_append.mp hx with hx | hx
    · exact l4 x hx
    · have : ((["a", "b", " ", "\n", "\n"] : List Str).all fun z => decide (z.length ≤ 4) && (TL.tl z).all fun c => decide (c < 1000)) = true := by decide +kernel
      have := List.all_eq_true.mp this x hx
      rw [Bool.and_eq_true] at this
      exact ⟨of_decide_eq_true this.1, fun c hc => of_decide_eq_true (List.all_eq_true.mp this.2 c hc)⟩
  refine ⟨⟨_, rfl⟩, _, rfl, _, rfl, _, _, rfl, rfl, p, c, m + 1, n + 1, rfl, p3, by omega, by omega, by omega, fun H4 r k4 p4 hr4 => ?_⟩
  refine ⟨_, rfl, by omega, by omega, fun D hD => ?_⟩
  rw [show ((r : Nat) : Int).toNat = r from Int.toNat_natCast r]
  refine lc_penK (m0 := m + 2) (s := 1) (k := 4) (fun v _ => ∃ z : Str, v = .str z ∧ (z.length ≤ 4 ∧ Sm z)) (fun _ _ _ _ h => h) (by show 4 < 5; decide) hD p4 (by omega) (fun i H5 m2 Q2 hi kk hp2 hm2 hq => ?_) (fun H5 xs e1 e2 e3 e4 e5 => ?_)
  · refine ⟨_, rfl, _, rfl, p, c, m2, _, rfl, hp2, by omega, .inr ⟨B, _, rfl, kk.lst (k4.lst hB2), ?_, ?_, fun H6 v j1 j2 j3 => ?_⟩⟩
    · rw [List.length_map, List.length_append]; exact Nat.le_trans (by decide : 1 ≤ 5) (Nat.le_add_left _ _)
    · rw [List.length_map, List.length_append]; show ws2.length + 5 ≤ 1000000; omega
    · obtain ⟨z, hz, rfl⟩ := List.mem_map.mp j3
      exact hq H6 _ j1 j2 ⟨z, rfl, l5 z hz⟩
  · obtain ⟨zs, rfl, hz⟩ := strs_vals e2
    rw [List.length_map] at e1
    have sm := lens_sum (fun z h => (hz z h).1)
    have e0 : ("" : Str).length = 0 := by decide +kernel
    refine ⟨_, D, zs, rfl, rfl, .inl (SqL.of e3), by rw [e0]; omega, ?_⟩
    rw [join_flat]
    refine q H5 _ (((Ks.of s1).trans k2).trans ((Ks.of s5).trans (k4.trans e4))) (e5.mono (by omega)) ?_ (fun x hx => ?_)
    rotate_left
    · obtain ⟨l, hl, hx⟩ := List.mem_flatten.mp hx
      obtain ⟨z, hz2, rfl⟩ := List.mem_map.mp hl
      exact (hz z hz2).2 x hx
    rw [List.length_flatten, List.map_map]
    have : zs.map (List.length ∘ TL.tl) = zs.map (·.length) := List.map_congr_left fun x _ => (TL.len_tl x).symm
    rw [this]; omega

end
end Vf

set_option maxRecDepth 100000
set_option maxHeartbeats 4000000
namespace Vf
open PySem PySem.Spec PyProof.Rows L2 SX
section
variable {P : Program} {w : World} {K : PySem.W.Frag} {mg : Str → Option Value} {base : Heap}
theorem ok_ReadingMachine_moved {f : Addr} {fd : FuncData} {q : Str} {CR CD CG CM : Addr} (me : Meth K CM "moved" f) (F : C8.Fun K "moved" q s_ReadingMachine_moved f fd) (b : Binds K fd ["self", "stand", "sign"] []) (T : Tx K w mg) (A0 : Ca K CR CD CG) (AM : Cm K CM) (C_Reader_read : C8.Met P w K mg base 3 CD "read" (sp_read P w K CR CD) []) : C8.Met P w K mg base 4 CM "moved" (sp_moved P w K CR CD CG CM) [] := by
  refine C8.met0 AM.iM.cl me F b sc_ReadingMachine_moved (fun vs H Q E h => ?_) (fun cdv A outer s H vs Q E hr h => ?_)
  · obtain ⟨_, _, _, _, _, _, _, _, rfl, _⟩ := h; rfl
  have hu := hu_of hr
  refine ⟨_, (pss_cons (ps_asg (pv 1) (pg_star0 (by rfl) (pgs_cons (pg_name (i := 3) sc_ReadingMachine_moved.nd rfl (Or.inl rfl)) (pgs_cons (pg_name (i := 4) sc_ReadingMachine_moved.nd rfl (Or.inl rfl)) pgs_nil))))
      (pss_cons (ps_set (i := 5) sc_ReadingMachine_moved.nd rfl (Or.inl rfl) (pe_op op_add_str (pv 4) (pe_ifExp (pt_cmpR op_isN (pv 2) pe_non (nomark _)) (C8.pe_gc rfl T.g_PLAIN_SIGN) (pv 2))))
      (pss_cons (ps_asg (C8.pe_mt C_Reader_read hr (by decide) (pe_fld (pe_fld (pv 0) rfl) rfl) (pa_cons (pe_callTy call_tuple_of (by rfl) T.z_tuple (by decide +kernel) (pa_cons (pv 3) pa_nil)) (pa_cons (pv 5) (pa_cons pe_bl pa_nil)))) (pg_tup (by rfl) (pgs_cons (pg_name (i := 6) sc_ReadingMachine_moved.nd rfl (Or.inl rfl)) (pgs_cons (pg_name (i := 7) sc_ReadingMachine_moved.nd rfl (Or.inl rfl)) (pgs_cons (pg_name (i := 8) sc_ReadingMachine_moved.nd rfl (Or.inl rfl)) pgs_nil)))))
      (pss_cons (ps_par (i := 9) (j := 10) (by rfl) sc_ReadingMachine_moved.nd rfl rfl (by decide) rfl rfl (pa_cons (pe_lst (pa_starX (by rfl) (pv 4) (pa_cons (pv 2) pa_nil))) (pa_cons (pe_slice C8.sl_txt (pv 5) (po_some (pv 7)) po_none) pa_nil)) (by rfl))
      (pss_one (ps_ret (pe_tup (pa_cons (pe_tup (StX.pa_star (pv 6) (pa_cons (pv 10) pa_nil))) (pa_cons (pe_tupZip (by rfl) (by rfl) T.z_tuple (by rfl) T.z_zip (pa_cons (pv 9) (pa_cons (pv 8) pa_nil))) pa_nil))))))))), ?_⟩

  obtain ⟨a, tg, fs, tx, v, m, wt, sg, rfl, hrm, htg, G, hsd, hwl, q⟩ := h
  obtain ⟨dx, b0, ha, hb0⟩ := id hrm
  obtain ⟨b, rfl, hb, mo⟩ := hsd
  obtain ⟨dg, rt, wi, rd, hg, dd, bb, p, rs, hrd, hbb, hfd, hmm⟩ := htg
  have cl := AM.iM.cl
  have clG := A0.iG.cl
  refine ⟨_, rfl, b, [.int (modeI m).1, .int (modeI m).2.1, .int (modeI m).2.2], .str (S wt), rfl, SqT.of hb, by show 3 ≤ 10000; decide, fun D hD => ?_⟩
  refine ⟨_, _, rfl, _, _, rfl, rfl, ?_⟩
  have s1 := same1 hD (.lst [.int (modeI m).1, .int (modeI m).2.1, .int (modeI m).2.2])
  have hD1 : upd H D (.lst [.int (modeI m).1, .int (modeI m).2.1, .int (modeI m).2.2]) D = some (.lst [.int (modeI m).1, .int (modeI m).2.1, .int (modeI m).2.2]) := upd_same
  generalize upd H D (.lst [.int (modeI m).1, .int (modeI m).2.1, .int (modeI m).2.2]) = H1 at s1 hD1 ⊢
  have wl : (S wt).length = wt.length := S_len wt
  refine ⟨_, rfl, ?_⟩
  have tsg : ∀ (R : VK), R (.str (S [sgC sg])) H1 → tIf (tTest (tOp (fun x y H Q => y = V.non ∧ Q (V.bl (decide (x = V.non))) H) (tVar 2) (tC V.non))) (tC (.str (S [32]))) (tVar 2) [some (.ref a), some (.ref b), some (sgV sg), some (.ref D), some (.str (S wt)), none, none, none, none, none, none] H1 R := fun R h => by
    cases sg with
    | none => exact ⟨_, rfl, rfl, _, rfl, ify (decide_eq_true rfl) h⟩
    | some c => exact ⟨_, rfl, rfl, _, rfl, ifn (decide_eq_false (fun z => nomatch z)) ⟨_, rfl, h⟩⟩
  refine tsg _ ⟨_, _, rfl, rfl, szB (by rw [wl, S_len]; show wt.length + 1 ≤ _; omega), ?_⟩
  rw [S_cat]
  have tl : (wt ++ [sgC sg]).length = wt.length + 1 := by rw [List.length_append]; rfl
  refine ⟨_, rfl, a, CM, dx, _, _, rfl, s1 _ _ ha, cl, AM.m1, rfl, tg, CG, dg, _, _, rfl, s1 _ _ hg, clG, A0.g4, rfl, rd, dd, _, rfl, s1 _ _ hrd, rfl, _, rfl, D, _, rfl, .inl ⟨SqL.of hD1, fun l hl => ?_⟩⟩
  have s2 := same_new s1 hl (.tup [.int (modeI m).1, .int (modeI m).2.1, .int (modeI m).2.2])
  refine ⟨_, rfl, ?_⟩
  refine ⟨rd, dd, bb, p, l, rs, fs, modeI m, wt ++ [sgC sg], false, rfl, s2 _ _ hrd, s2 _ _ hbb, hfd.kp (.of s2), hmm.kp (.of s2), SqT.of upd_same, by omega, G.ts, mo, fun H2 r mb m' pl ks s3 hr2 hmb hre hpl he => ?_⟩
  obtain ⟨sd, mo2, pll⟩ := reach_sd G mo hre (he.imp id fun z => z.2)
  rw [modeI_toMd] at sd
  have sm := sd_more G.okR sd (by have := mode_ok mo; rw [modeI_toMd] at this; exact this)
  have kll := sm.2.1
  rw [tl, List.length_drop, tl] at kll
  refine ⟨r, _, rfl, SqT.of hr2, rfl, _, _, rfl, _, _, rfl, _, _, rfl, rfl, ?_⟩
  refine ⟨_, rfl, wt, rfl, by omega, _, rfl, szB (by rw [List.length_append, List.length_map]; show wt.length + 1 ≤ _; omega), fun L hL => ?_⟩
  have s4 := same1 hL (.lst (wt.map (fun c => V.str (S [c])) ++ [sgV sg]))
  have hL4 : upd H2 L (.lst (wt.map (fun c => V.str (S [c])) ++ [sgV sg])) L = some (.lst (wt.map (fun c => V.str (S [c])) ++ [sgV sg])) := upd_same
  have hmb4 := sqT_kp hmb (.of s4)
  generalize upd H2 L (.lst (wt.map (fun c => V.str (S [c])) ++ [sgV sg])) = H3 at s4 hL4 hmb4 ⊢
  refine ⟨_, rfl, _, rfl, _, rfl, _, rfl, szB (by rw [S_len, tl]; omega), ?_⟩
  have on : ∀ (a : List Nat) (i : Nat), Txt.slice (S a) (some (i : Int)) none = S (a.drop i) := fun a i => by rw [slice_from (by omega)]; rfl
  rw [on]
  refine ⟨_, _, rfl, ?_⟩
  refine ⟨_, rfl, mb, _, rfl, .inl hmb4, _, rfl, szB (show 4 ≤ 1000000 by decide), fun T1 hT1 => ?_⟩
  have s5 := same1 hT1 (.tup ([.int m'.1, .int m'.2.1, .int m'.2.2] ++ [.str (S ((wt ++ [sgC sg]).drop pl))]))
  have hT5 := upd_same (H := H3) (a := T1) (o := .tup ([.int m'.1, .int m'.2.1, .int m'.2.2] ++ [.str (S ((wt ++ [sgC sg]).drop pl))]))
  refine ⟨_, rfl, _, rfl, ⟨.ref L, ks, wt.map (fun c => V.str (S [c])) ++ [sgV sg], rfl, .inl ⟨L, rfl, SqL.of (s5 _ _ hL4)⟩, by rw [List.length_append, List.length_map]; show wt.length + 1 ≤ _; omega, by omega, fun H5 b5 ps s6 hb5 hpl5 hel5 => ?_⟩⟩
  refine ⟨szB (show 2 ≤ 1000000 by decide), fun R hR => ?_⟩
  have s7 := same1 hR (.tup [.ref T1, .ref b5])
  have mi : modeI (toMd m') = m' := modeI_to mo2
  refine q _ R (.ref T1) (.ref b5) (toMd m') ((wt ++ [sgC sg]).drop pl) ks (fun b o z => s7 _ _ (s6 _ _ (s5 _ _ (s4 _ _ (s3 _ _ (s2 _ _ z)))))) upd_same ⟨T1, rfl, by rw [mi]; exact s7 _ _ (s6 _ _ hT5), by rw [mi]; exact mo2⟩ ((prs_of hb5 ?_ hpl5 hel5).same s7) sd
  rw [List.map_append, List.map_map]; rfl

end
end Vf

set_option maxRecDepth 100000
set_option maxHeartbeats 4000000
namespace Vf
open PySem PySem.Spec PyProof.Rows L2 SX
section
variable {P : Program} {w : World} {K : PySem.W.Frag} {mg : Str → Option Value} {base : Heap}
theorem ok_pairsDue {f : Addr} {fd : FuncData} (F : C8.Def K mg "_law_pairs_due" s_pairsDue f fd) (b : Binds K fd ["_law_rules", "_law_text", "_law_signs"] []) (T : Tx K w mg) (C_lawKinds : C8.Cal P w K mg base 3 "_law_kinds" sp_lawKinds []) : C8.Cal P w K mg base 4 "_law_pairs_due" sp_pairsDue [] := by
  refine C8.cal0 F b .nil sc_pairsDue (fun vs H Q E h => ?_) (fun cdv A outer s H vs Q E hr h => ?_)
  · obtain ⟨_, _, _, _, _, rfl, _⟩ := h; rfl
  have hu := hu_of hr
  refine ⟨_, (pss_cons (ps_set (i := 3) sc_pairsDue.nd rfl (Or.inr rfl) (C8.pe_c C_lawKinds hr (by decide) rfl (pa_cons (pv 0) (pa_cons (pv 1) pa_nil))))
      (pss_one (ps_ret (pe_lc (own := [("_law_k", 4)]) (g := (gName 4)) (tt := tYes) rfl sc_pairsDue.nd (pi_range1 (by rfl) T.z_range (pa_cons (pe_callB call_len (by rfl) T.z_len PySem.boot_len (pa_cons (pv 1) pa_nil)) pa_nil)) (blkOk_by (N := N_pairsDue) (sc := C8.fnScope s_pairsDue) (by decide +kernel)) (fun _ _ _ _ _ => pg_name (i := 4) sc_pairsDue.nd rfl (Or.inl rfl)) (fun _ _ _ _ _ => pts_nil) (fun _ _ _ _ _ => (pe_tup (pa_cons (pe_ix (ix_listK (K := K) rfl) (pv 2) (pv 4) (fun _ _ => rfl)) (pa_cons (pe_ix ix_str (pv 3) (pv 4) (fun _ _ => rfl)) pa_nil)))))))), ?_⟩

  obtain ⟨L, B, qs, t, gs, rfl, hL, ok, htl, hB, hgl, q⟩ := h
  have tlt : (S t).length = t.length := S_len t
  have kl := kds_len ok.ok ok.nn t
  refine ⟨_, rfl, _, rfl, L, qs, t, rfl, hL, ok, htl, fun H1 s1 => ?_⟩
  generalize hk : kdsOf (rsQ qs) t = kd at q kl ⊢
  refine ⟨_, rfl, _, t.length, rfl, ⟨by rw [tlt]; exact szB (by omega), tlt.symm⟩, _, rfl, by omega, by omega, fun D hD => ?_⟩
  rw [show ((t.length : Nat) : Int).toNat = t.length from Int.toNat_natCast _]
  refine lc_range (fun i H' => Same H1 H' ∧ ∃ us, H' D = some (.lst us) ∧ PrE H' us ((gs.zip kd).take i)) ⟨same1 hD _, [], upd_same, .nil⟩ ?_ ?_
  · rintro i H2 hi ⟨s2, us, hD2, pe⟩
    have hg : gs[i]? = some gs[i] := List.getElem?_eq_getElem (by omega)
    have hkd : kd[i]? = some kd[i] := List.getElem?_eq_getElem (by omega)
    refine ⟨rfl, ?_⟩
    dsimp only [tYes]
    rw [if_pos rfl]
    have e0 : (0 : Int) + (i : Int) = (i : Int) := by omega
    have hB2 : H2 B = some (.lst (gs.map sgV)) := s2 _ _ (s1 _ _ hB)
    have a1 : atI (gs.map sgV) ((0 : Int) + (i : Int)) = some (sgV gs[i]) := by rw [e0]; exact atI_nat (by rw [List.getElem?_map, hg]; rfl)
    have a2 : atI (S kd).cps.toList ((0 : Int) + (i : Int)) = some kd[i] := by rw [e0]; exact atI_nat hkd
    refine ⟨_, rfl, _, rfl, B, _, _, _, rfl, rfl, SqL.of hB2, a1, _, rfl, _, rfl, _, _, _, rfl, rfl, by rw [S_len]; exact szB (by omega), a2, szB (show 2 ≤ 1000000 by decide), fun T0 hT0 => ?_⟩
    have sT := same1 hT0 (.tup [sgV gs[i], .str (S [kd[i]])])
    have hT1 : upd H2 T0 (.tup [sgV gs[i], .str (S [kd[i]])]) T0 = some (.tup [sgV gs[i], .str (S [kd[i]])]) := upd_same
    have hD3 := sT _ _ hD2
    have hl := pe.1
    rw [List.length_take, List.length_zip] at hl
    refine ⟨us, hD3, szL (by omega), fun c o z => ?_, us ++ [.ref T0], upd_same, ?_⟩
    · rw [upd_ne (ne_of_none z hD)]; exact sT _ _ (s2 _ _ z)
    · have hz : (gs.zip kd)[i]? = some (gs[i], kd[i]) := by rw [List.getElem?_zip_eq_some]; exact ⟨hg, hkd⟩
      rw [List.take_add_one, hz]
      refine ((pe.same sT).app (.one (p := (gs[i], kd[i])) hT1)).tk fun b xs z => ?_
      rw [upd_ne fun y => by rw [y, hD3] at z; cases z]; exact z
  · rintro H2 ⟨s2, us, hD2, pe⟩
    rw [List.take_of_length_le (by rw [List.length_zip]; omega)] at pe
    exact q H2 D us (fun b o z => s2 _ _ (s1 _ _ z)) hD2 pe

end
end Vf

set_option maxRecDepth 100000
set_option maxHeartbeats 4000000
namespace Vf
open PySem PySem.Spec PyProof.Rows L2 SX
section
variable {P : Program} {w : World} {K : PySem.W.Frag} {mg : Str → Option Value} {base : Heap}
theorem ok2_pieceMarks {f : Addr} {fd : FuncData} {CR CD CG : Addr} (F : C8.Def K mg "piece_marks" s_pieceMarks f fd) (b : Binds K fd ["rule", "number", "depth"] []) (T : Tx K w mg) (A0 : Ca K CR CD CG) : C8.Cal P w K mg base 1 "piece_marks" (sp2_pieceMarks K CR) [] := by
  refine C8.cal0 F b .nil sc_pieceMarks (fun vs H Q E h => ?_) (fun cdv A outer s H vs Q E hr h => ?_)
  · obtain ⟨_, _, _, _, _, _, _, _, _, _, _, rfl, _⟩ := h; rfl
  have hu := hu_of hr
  refine ⟨_, (pss_cons (ps_set (i := 3) sc_pieceMarks.nd rfl (Or.inl rfl) (pe_lst pa_nil))
      (C8.pss_cut (ps_if (pt_truth (pe_fld (pv 0) rfl) (by intro _; rfl))
      (pss_one (ps_expr (pe_bm PySem.F.plainAttrs_list PySem.F.slot_list_append PySem.F.type_list_append mt_append (pv 3) (pa_cons (pe_tup (pa_cons (pe_fld (pv 0) rfl) (pa_cons (pe_ifExp (pt_cmpR op_gt (pv 2) pe_int (nomark _)) (pe_tup (pa_cons (pv 1) (pa_cons (pe_op op_sub (pv 2) pe_int) (pa_cons pe_int pa_nil)))) (C8.pe_gc rfl (Classical.choose_spec T.g_CODE).1)) pa_nil))) pa_nil))))
      pss_nil)
      (C8.pss_cut (ps_if (pt_cmpR op_lt (pv 2) (pe_fld (pv 0) rfl) (nomark _))
      (pss_one (ps_expr (pe_bm PySem.F.plainAttrs_list PySem.F.slot_list_append PySem.F.type_list_append mt_append (pv 3) (pa_cons (pe_tup (pa_cons (pe_fld (pv 0) rfl) (pa_cons (pe_tup (pa_cons (pv 1) (pa_cons (pe_op op_add (pv 2) pe_int) (pa_cons pe_int pa_nil)))) pa_nil))) pa_nil))))
      pss_nil)
      (C8.pss_cut (ps_if (pt_val (pe_fld (pv 0) rfl))
      (pss_one (ps_expr (pe_bm PySem.F.plainAttrs_list PySem.F.slot_list_append PySem.F.type_list_append mt_append (pv 3) (pa_cons (pe_tup (pa_cons (pe_op op_rep_str (pe_fld (pv 0) rfl) pe_int) (pa_cons (pe_tup (pa_cons (pv 1) (pa_cons (pv 2) (pa_cons pe_int pa_nil)))) pa_nil))) pa_nil))))
      pss_nil)
      (pss_one (ps_ret (pv 3))))))), ?_⟩

  obtain ⟨a, dx, k, op, cx, nd, es, db, ln, n, d, rfl, ha, h1, h2, q⟩ := h
  obtain ⟨gu, gc⟩ := Classical.choose_spec T.g_CODE
  have cl := A0.iR.cl
  refine ⟨szB (by decide), fun L hL => ?_⟩
  have nLa : a ≠ L := ne_of_none ha hL
  have step : ∀ {t : TS} {u : TS} {D : Ends} {σ : L2.St} {H1 : Hp} {ks : List (Str × Int × Int × Int)}, t { D with nx := fun σ' H' => ∃ ms : List V, σ' = [some (.ref a), some (.int (n : Int)), some (.int (d : Int)), some (.ref L)] ∧ PInvX K H L ks ms H' } σ H1 → (∀ (ms : List V) (H' : Hp), PInvX K H L ks ms H' → u D [some (.ref a), some (.int (n : Int)), some (.int (d : Int)), some (.ref L)] H') → C8.tCut t u D σ H1 := fun h1 h2 => ⟨_, h1, fun σ' H' ⟨m, e1, e2⟩ => by rw [e1]; exact h2 m H' e2⟩
  have i0 : PInvX K H L [] [] (upd H L (.lst [])) := ⟨upd_same, same1 hL _, rfl, fun _ _ _ z => nomatch z⟩
  have hcode : ∀ {H' : Hp}, ModeAt K H' (.ref (Classical.choose T.g_CODE)) (-1, 0, 0) := fun {_} => ⟨_, rfl, gc _⟩
  let m1 : Int × Int × Int := if 1 < d then ((n : Int), (d : Int) - 1, (0 : Int)) else ((-1 : Int), (0 : Int), (0 : Int))
  let k1 : List (Str × Int × Int × Int) := if cx ≠ "" then [(cx, m1)] else []
  let k2 : List (Str × Int × Int × Int) := k1 ++ (if d < nd then [(op, ((n : Int), (d : Int) + 1, (0 : Int)))] else [])
  let k3 : List (Str × Int × Int × Int) := k2 ++ (if db = true then [(S (repL 2 (TL.tl cx)), ((n : Int), (d : Int), (0 : Int)))] else [])
  have ek : k3 = pmL op cx nd db n d := by show (k1 ++ _) ++ _ = _; rw [List.append_assoc]; rfl
  have l1 : k1.length ≤ 1 := by
    show (if cx ≠ "" then [(cx, m1)] else []).length ≤ 1
    split <;> simp
  have l2 : k2.length ≤ 2 := by
    show (k1 ++ (if d < nd then [(op, ((n : Int), (d : Int) + 1, (0 : Int)))] else [])).length ≤ 2
    rw [List.length_append]
    split
    · rw [List.length_singleton]; omega
    · rw [List.length_nil]; omega
  refine step (ks := k1) ?_ fun ms H1 i1 => step (ks := k2) ?_ fun ms2 H2 i2 => step (ks := k3) ?_ fun ms3 H3 i3 => ?_
  · have ha0 := i0.2.1 _ _ ha
    refine ⟨_, rfl, a, CR, dx, _, _, rfl, ha0, cl, A0.r3, rfl, _, ⟨szB (by omega), rfl⟩, ?_⟩
    rw [str_ne0]
    by_cases c0 : cx ≠ ""
    case neg =>
      have e1 : k1 = [] := if_neg c0
      exact ifn (decide_eq_false c0) ⟨_, rfl, e1 ▸ i0⟩
    have e1 : k1 = [] ++ [(cx, m1)] := if_pos c0
    refine ify (decide_eq_true c0) ⟨_, rfl, .inl ⟨rfl, _, SqL.of i0.1⟩, _, rfl, a, CR, dx, _, _, rfl, ha0, cl, A0.r3, rfl, _, rfl, _, _, rfl, rfl, _, rfl, ?_⟩
    by_cases c1 : 1 < d
    · have em : m1 = ((n : Int), (d : Int) - 1, (0 : Int)) := if_pos c1
      refine ify (decide_eq_true (by omega)) ⟨_, rfl, _, rfl, _, _, rfl, rfl, sz_3, fun t1 ht1 => ⟨sz_2, fun t ht => ?_⟩⟩
      have s1 := same1 ht1 (.tup [.int (n : Int), .int ((d : Int) - 1), .int 0])
      have s2 := same_new s1 ht (.tup [.str cx, .ref t1])
      have g1 : (upd (upd (upd H L (.lst [])) t1 (.tup [.int (n : Int), .int ((d : Int) - 1), .int 0])) t (.tup [.str cx, .ref t1])) t1 = some (.tup [.int (n : Int), .int ((d : Int) - 1), .int 0]) := by rw [upd_ne (ne_of_none upd_same ht)]; exact upd_same
      exact ⟨L, _, _, rfl, rfl, s2 _ _ i0.1, szL (by decide), _, rfl, by rw [e1, em]; exact pinvX_push hL i0 s2 upd_same ⟨t1, rfl, SqT.of g1⟩⟩
    · have em : m1 = ((-1 : Int), (0 : Int), (0 : Int)) := if_neg c1
      refine ifn (decide_eq_false (by omega)) ⟨sz_2, fun t ht => ?_⟩
      have s2 := same1 ht (.tup [.str cx, .ref (Classical.choose T.g_CODE)])
      exact ⟨L, _, _, rfl, rfl, s2 _ _ i0.1, szL (by decide), _, rfl, by rw [e1, em]; exact pinvX_push hL i0 s2 upd_same hcode⟩
  · have ha0 := i1.2.1 _ _ ha
    have hm1 := i1.2.2.1
    refine ⟨_, rfl, _, rfl, a, CR, dx, _, _, rfl, ha0, cl, A0.r4, rfl, _, _, rfl, rfl, _, rfl, ?_⟩
    by_cases c1 : d < nd
    case neg =>
      have e1 : k2 = k1 := by show k1 ++ _ = k1; rw [if_neg c1, List.append_nil]
      exact ifn (decide_eq_false (by omega)) ⟨_, rfl, by rw [e1]; exact i1⟩
    have e1 : k2 = k1 ++ [(op, ((n : Int), (d : Int) + 1, (0 : Int)))] := by show k1 ++ _ = _; rw [if_pos c1]
    refine ify (decide_eq_true (by omega)) ⟨_, rfl, .inl ⟨rfl, _, SqL.of i1.1⟩, _, rfl, a, CR, dx, _, _, rfl, ha0, cl, A0.r2, rfl, _, rfl, _, rfl, _, _, rfl, rfl, sz_3, fun t1 ht1 => ⟨sz_2, fun t ht => ?_⟩⟩
    have s1 := same1 ht1 (.tup [.int (n : Int), .int ((d : Int) + 1), .int 0])
    have s2 := same_new s1 ht (.tup [.str op, .ref t1])
    have g1 : (upd (upd H1 t1 (.tup [.int (n : Int), .int ((d : Int) + 1), .int 0])) t (.tup [.str op, .ref t1])) t1 = some (.tup [.int (n : Int), .int ((d : Int) + 1), .int 0]) := by rw [upd_ne (ne_of_none upd_same ht)]; exact upd_same
    exact ⟨L, _, _, rfl, rfl, s2 _ _ i1.1, szL (by omega), _, rfl, by rw [e1]; exact pinvX_push hL i1 s2 upd_same ⟨t1, rfl, SqT.of g1⟩⟩
  · have ha0 := i2.2.1 _ _ ha
    have hm2 := i2.2.2.1
    refine ⟨_, rfl, a, CR, dx, _, _, rfl, ha0, cl, A0.r6, rfl, _, rfl, ?_⟩
    by_cases c1 : db = true
    case neg =>
      have e1 : k3 = k2 := by show k2 ++ _ = k2; rw [if_neg c1, List.append_nil]
      exact ifn (Bool.eq_false_iff.mpr c1) ⟨_, rfl, by rw [e1]; exact i2⟩
    have e1 : k3 = k2 ++ [(S (repL 2 (TL.tl cx)), ((n : Int), (d : Int), (0 : Int)))] := by show k2 ++ _ = _; rw [if_pos c1]
    refine ify c1 ⟨_, rfl, .inl ⟨rfl, _, SqL.of i2.1⟩, _, rfl, a, CR, dx, _, _, rfl, ha0, cl, A0.r3, rfl, TL.tl cx, 2, congrArg V.str (S_tl cx).symm, rfl, by decide, by rw [← TL.len_tl]; omega, ?_⟩
    refine ⟨_, rfl, _, rfl, sz_3, fun t1 ht1 => ⟨sz_2, fun t ht => ?_⟩⟩
    have s1 := same1 ht1 (.tup [.int (n : Int), .int (d : Int), .int 0])
    have s2 := same_new s1 ht (.tup [.str (S (repL 2 (TL.tl cx))), .ref t1])
    have g1 : (upd (upd H2 t1 (.tup [.int (n : Int), .int (d : Int), .int 0])) t (.tup [.str (S (repL 2 (TL.tl cx))), .ref t1])) t1 = some (.tup [.int (n : Int), .int (d : Int), .int 0]) := by rw [upd_ne (ne_of_none upd_same ht)]; exact upd_same
    exact ⟨L, _, _, rfl, rfl, s2 _ _ i2.1, szL (by omega), _, rfl, by rw [e1]; exact pinvX_push hL i2 s2 upd_same ⟨t1, rfl, SqT.of g1⟩⟩
  · exact ⟨_, rfl, q H3 L ms3 i3.2.1 hL i3.1 (ek ▸ i3.2.2)⟩

end
end Vf

set_option maxRecDepth 100000
set_option maxHeartbeats 4000000
namespace Vf
open PySem PySem.Spec PyProof.Rows L2 SX
section
variable {P : Program} {w : World} {K : PySem.W.Frag} {mg : Str → Option Value} {base : Heap}
theorem ok2_readRules {f : Addr} {fd : FuncData} {CR CD CG CT CW : Addr} (F : C8.Def K mg "read_rules" s_readRules f fd) (b : Binds K fd ["text"] []) (T : Tx K w mg) (ES : Es P w K mg base CT CW) (M_Rule : C8.Mak P w K mg base 1 "Rule" CR (sp2_Rule_init K CR) []) (A0 : Ca K CR CD CG) (C_wrongColumn : C8.Cal P w K mg base 3 "wrong_column" (sp_wrongColumn K) []) : CalX P w K mg base 4 "read_rules" (sp2_readRules CR CT) := by
  refine calX F b sc_readRules (fun vs H Q E h => ?_) (fun cdv A outer s H vs Q E hr h => ?_)
  · obtain ⟨t, rfl, _⟩ := h; rfl
  have hu := hu_of hr
  refine ⟨_, (pss_cons (ps_set (i := 1) sc_readRules.nd rfl (Or.inl rfl) (pe_lst pa_nil))
      (pss_cons (ps_set (i := 2) sc_readRules.nd rfl (Or.inl rfl) (pe_lst pa_nil))
      (pss_cons (ps_for (passes_of rfl) rfl (pi_enumK (by rfl) T.z_enumerate (pa_cons (pe_ifExp (pt_truth (pv 0) (by intro _; rfl)) (pe_split (pv 0) pe_str) (pe_lst pa_nil)) pa_nil) pe_int) (pg_tup rfl (pgs_cons (pg_name (i := 3) sc_readRules.nd rfl (Or.inl rfl)) (pgs_cons (pg_name (i := 4) sc_readRules.nd rfl (Or.inl rfl)) pgs_nil)))
      (pss_cons (ps_set (i := 5) sc_readRules.nd rfl (Or.inl rfl) (pe_ifExp (pt_cmpR op_gt (pv 3) (C8.pe_gc rfl T.g_MOST_RULES) (nomark _)) pe_int (C8.pe_c C_wrongColumn hr (by decide) rfl (pa_cons (pv 4) (pa_cons (pv 2) pa_nil)))))
      (pss_cons (ps_if (pt_cmpR op_notN (pv 5) pe_non (nomark _))
      (pss_one (ps_rx ES.r_BadText hr (by decide) rfl rfl (takes_of rfl rfl rfl rfl) (pa_cons (pv 3) (pa_cons (pv 5) pa_nil))))
      pss_nil)
      (pss_cons (ps_expr (pe_bm PySem.F.plainAttrs_list PySem.F.slot_list_append PySem.F.type_list_append mt_append (pv 1) (pa_cons (C8.pe_mk M_Rule hr (by decide) rfl (pa_cons (pe_split (pv 4) pe_str) pa_nil)) pa_nil)))
      (pss_one (ps_expr (pe_bm PySem.F.plainAttrs_list PySem.F.slot_list_append PySem.F.type_list_append mt_append (pv 2) (pa_cons (pe_fld (pe_ix ix_list (pv 1) (pe_un un_neg pe_int) (fun _ _ => rfl)) rfl) pa_nil))))))))
      (pss_one (ps_ret (pe_callTy call_tuple_of (by rfl) T.z_tuple (by decide +kernel) (pa_cons (pv 1) pa_nil))))))), ?_⟩

  obtain ⟨t, rfl, ht, lo, qo, qe⟩ := h
  refine ⟨szB (by decide), fun R hR => ⟨szB (by decide), fun O hO => ?_⟩⟩
  refine ⟨_, rfl, _, ⟨szB (by omega), rfl⟩, ?_⟩
  rw [str_ne0]
  have sR := same1 hR (.lst [])
  have sO := same_new sR hO (.lst [])
  have nRO : R ≠ O := ne_of_none upd_same hO
  have hR0 : (upd (upd H R (.lst [])) O (.lst [])) R = some (.lst []) := by rw [upd_ne nRO]; exact upd_same
  by_cases c0 : t ≠ ""
  case' pos =>
    refine ify (decide_eq_true c0) ⟨_, rfl, ⟨_, rfl⟩, _, _, rfl, rfl, by decide +kernel, szB (by omega), fun L hL => ?_⟩
    have eL : (Txt.split t (Str.ofString "\n")).map V.str = (lnsOf t).map V.str := by unfold lnsOf; rw [if_neg c0]
    have hLs : (upd (upd (upd H R (.lst [])) O (.lst [])) L (.lst ((Txt.split t (Str.ofString "\n")).map V.str))) L = some (.lst ((lnsOf t).map V.str)) := by rw [upd_same, eL]
    have hR1 : (upd (upd (upd H R (.lst [])) O (.lst [])) L (.lst ((Txt.split t (Str.ofString "\n")).map V.str))) R = some (.lst []) := by rw [upd_ne (ne_of_none hR0 hL)]; exact hR0
    have hO1 : (upd (upd (upd H R (.lst [])) O (.lst [])) L (.lst ((Txt.split t (Str.ofString "\n")).map V.str))) O = some (.lst []) := by rw [upd_ne (ne_of_none upd_same hL)]; exact upd_same
    have s1 := same_new sO hL (.lst ((Txt.split t (Str.ofString "\n")).map V.str))
    have nLR : L ≠ R := (ne_of_none hR0 hL).symm
    have nLO : L ≠ O := (ne_of_none (show (upd (upd H R (.lst [])) O (.lst [])) O = some (.lst []) from upd_same) hL).symm
    have fO : H O = none := sR.free hO
    generalize upd (upd (upd H R (.lst [])) O (.lst [])) L (.lst ((Txt.split t (Str.ofString "\n")).map V.str)) = H1 at hLs hR1 hO1 s1 ⊢
  case' neg =>
    refine ifn (decide_eq_false c0) ⟨szB (by decide), fun L hL => ?_⟩
    have eL : ([] : List V) = (lnsOf t).map V.str := by unfold lnsOf; rw [if_pos (Decidable.not_not.mp c0)]; rfl
    have hLs : (upd (upd (upd H R (.lst [])) O (.lst [])) L (.lst ([]))) L = some (.lst ((lnsOf t).map V.str)) := by rw [upd_same]; exact congrArg (fun z => some (HO.lst z)) eL
    have hR1 : (upd (upd (upd H R (.lst [])) O (.lst [])) L (.lst ([]))) R = some (.lst []) := by rw [upd_ne (ne_of_none hR0 hL)]; exact hR0
    have hO1 : (upd (upd (upd H R (.lst [])) O (.lst [])) L (.lst ([]))) O = some (.lst []) := by rw [upd_ne (ne_of_none upd_same hL)]; exact upd_same
    have s1 := same_new sO hL (.lst ([]))
    have nLR : L ≠ R := (ne_of_none hR0 hL).symm
    have nLO : L ≠ O := (ne_of_none (show (upd (upd H R (.lst [])) O (.lst [])) O = some (.lst []) from upd_same) hL).symm
    have fO : H O = none := sR.free hO
    generalize upd (upd (upd H R (.lst [])) O (.lst [])) L (.lst ([])) = H1 at hLs hR1 hO1 s1 ⊢
  all_goals
    obtain ⟨l1, l2⟩ := lo
    refine ⟨L, _, rfl, SqL.of hLs, 1, rfl, by decide, by decide, SqL.of hLs, ?_⟩
    refine for_it walk_enumK (fun i σ H' => ∃ (rs : List V) (v3 v4 v5 : Option V), σ = [some (.str t), some (.ref R), some (.ref O), v3, v4, v5] ∧ Same H H' ∧ H' L = some (.lst ((lnsOf t).map V.str)) ∧ H' R = some (.lst rs) ∧ H' O = some (.lst ((((lnsOf t).take i).map opn).map V.str)) ∧ rs.length = i ∧ RusW CR H' rs (lnsOf t) ∧ fw (lnsOf t) = fwGo i ((lnsOf t).drop i) (((lnsOf t).take i).map opn) ∧ i ≤ 6)
      ⟨[], none, none, none, rfl, s1, hLs, hR1, hO1, rfl, (fun _ _ _ z => nomatch z), rfl, by decide⟩ (fun i σ H' _ ⟨_, _, _, _, _, _, z, _⟩ => SqL.of z) ?_ ?_
    · rintro i x σ H2 H3 hi ⟨rs, v3, v4, v5, rfl, s2, h2L, h2R, h2O, hrl, hru, efw, hi6⟩ ⟨T', x', y', rfl, hT, rfl, ex, ey⟩
      cases ex
      dsimp only at ey
      rw [List.getElem?_map] at ey
      obtain ⟨l, hl, rfl⟩ := Option.map_eq_some_iff.mp ey
      have gl := l2 l (List.mem_of_getElem? hl)
      have ed : (lnsOf t).drop i = l :: (lnsOf t).drop (i + 1) := by
        obtain ⟨hlt, eg⟩ := List.getElem?_eq_some_iff.mp hl
        rw [← eg]; exact List.drop_eq_getElem_cons hlt
      have et : ((lnsOf t).take (i + 1)).map opn = ((lnsOf t).take i).map opn ++ [opn l] := by rw [List.take_add_one, hl, List.map_append]; rfl
      rw [ed, fwGo_cons] at efw
      have s3 := same_new s2 hT (.tup [.int ((1 : Int) + (i : Int)), .str l])
      have s23 := same1 hT (.tup [.int ((1 : Int) + (i : Int)), .str l])
      have h3L := s23 _ _ h2L
      have h3R := s23 _ _ h2R
      have h3O := s23 _ _ h2O
      have hru3 : RusW CR (upd H2 T' (.tup [.int ((1 : Int) + (i : Int)), .str l])) rs (lnsOf t) := fun j r l h1 h2 => (hru j r l h1 h2).same s23
      refine ⟨T', _, rfl, SqT.of upd_same, rfl, _, _, rfl, _, _, rfl, rfl, ?_⟩
      generalize upd H2 T' (.tup [.int ((1 : Int) + (i : Int)), .str l]) = H3 at s3 s23 h3L h3R h3O hru3 ⊢
      refine ⟨_, rfl, _, _, rfl, rfl, _, rfl, ?_⟩
      have e6 : decide ((6 : Int) < (1 : Int) + (i : Int)) = decide (6 ≤ i) := decide_eq_decide.mpr (by omega)
      rw [e6]
      by_cases c6 : 6 ≤ i
      · rw [if_pos c6] at efw
        refine ify (decide_eq_true c6) ⟨_, rfl, rfl, _, rfl, ?_⟩
        refine ifT ⟨_, rfl, _, rfl, rfl, fun d H4 hd hx s4 => ?_⟩
        refine qe _ efw d H4 (fun b u z => s4 _ _ (s3 b u z)) ?_
        rw [hx]
        show some (HO.xd [("column", .int 1), ("line", .int ((1 : Int) + (i : Int)))]) = _
        rw [show ((1 : Int) + (i : Int)) = ((i + 1 : Nat) : Int) by omega]
        rfl
      rw [if_neg c6] at efw
      refine ifn (decide_eq_false c6) ⟨_, rfl, _, rfl, O, _, l, rfl, SqL.of h3O, gl.1, fun H4 s4 => ?_⟩
      have h4L := s4 _ _ h3L
      have h4R := s4 _ _ h3R
      have h4O := s4 _ _ h3O
      cases ec : wcol l (((lnsOf t).take i).map opn) with
      | some c =>
        rw [ec] at efw
        refine ⟨_, rfl, rfl, _, rfl, ?_⟩
        refine ifT ⟨_, rfl, _, rfl, rfl, fun d H5 hd hx s5 => ?_⟩
        refine qe _ efw d H5 (fun b u z => s5 _ _ (s4 _ _ (s3 b u z))) ?_
        rw [hx]
        show some (HO.xd [("column", .int (c : Int)), ("line", .int ((1 : Int) + (i : Int)))]) = _
        rw [show ((1 : Int) + (i : Int)) = ((i + 1 : Nat) : Int) by omega]
      | none =>
        rw [ec] at efw
        dsimp only at efw
        have cv := wcol_cv ec
        obtain ⟨b1, b2, b3⟩ := spS_bnd l
        refine ⟨_, rfl, rfl, _, rfl, ?_⟩
        refine ifF ?_
        have sH4 : Same H H4 := fun b u z => s4 _ _ (s3 b u z)
        refine ⟨_, rfl, .inl ⟨rfl, _, SqL.of h4R⟩, _, rfl, ⟨_, rfl⟩, _, _, rfl, rfl, by decide +kernel, szB (by have := gl.1; omega), fun W hW => ?_⟩
        intro a dx na ndx ne
        have hz1 := gl.1
        refine ⟨a, dx, W, spS l, _, rfl, upd_same, ?_, cv, by omega, fun H6 k6 ha6 => ⟨rfl, ?_⟩⟩
        · have : (upd H4 W (.lst ((spS l).map V.str))) W = some (.lst ((spS l).map V.str)) := upd_same
          refine SqL.of ?_
          rw [upd_ne (ne_of_none this na), upd_ne (ne_of_none this ndx)]
          exact this
        have nfa : ∀ b u, H4 b = some u → H6 b = some u := fun b u z => by
          have z1 := same1 hW (.lst ((spS l).map V.str)) b u z
          have n1 := ne_of_none z1 na
          have n2 := ne_of_none z1 ndx
          exact k6 b u n1 (by rw [upd_ne n1, upd_ne n2]; exact z1)
        have h6L := nfa _ _ h4L
        have h6R := nfa _ _ h4R
        have h6O := nfa _ _ h4O
        have sH6 : Same H H6 := fun b u z => nfa b u (sH4 b u z)
        refine ⟨R, rs, _, rfl, rfl, h6R, szL (by omega), ?_⟩
        have h7R : (upd H6 R (.lst (rs ++ [.ref a]))) R = some (.lst (rs ++ [.ref a])) := upd_same
        have h7O : (upd H6 R (.lst (rs ++ [.ref a]))) O = some (.lst ((((lnsOf t).take i).map opn).map V.str)) := by rw [upd_ne nRO.symm]; exact h6O
        have h7a : (upd H6 R (.lst (rs ++ [.ref a]))) a = some (.ins CR dx (ruFw (spS l))) := by rw [upd_ne (ne_of ha6 h6R fun z => nomatch z)]; exact ha6
        refine ⟨_, rfl, .inl ⟨rfl, _, SqL.of h7O⟩, _, rfl, _, rfl, R, _, _, .ref a, rfl, rfl, SqL.of h7R, atI_last _ _, a, CR, dx, _, .str (opn l), rfl, h7a, A0.iR.cl, A0.r2, rfl, O, _, _, rfl, rfl, h7O, szL (by rw [List.length_map, List.length_map, List.length_take]; omega), ?_⟩
        have sH7 : Same H (upd (upd H6 R (.lst (rs ++ [.ref a]))) O (.lst ((((lnsOf t).take i).map opn).map V.str ++ [.str (opn l)]))) := fun b u z => by
          rw [upd_ne (ne_of_none z fO), upd_ne (ne_of_none z hR)]
          exact sH6 b u z
        refine ⟨rs ++ [.ref a], _, _, _, rfl, sH7, by rw [upd_ne nLO, upd_ne nLR]; exact h6L, by rw [upd_ne nRO]; exact h7R, by rw [upd_same, et, List.map_append]; rfl, by rw [List.length_append, hrl]; rfl, fun j r l' h1 h2 => ?_, by rw [et]; exact efw, by omega⟩
        have grow : ∀ r ws, RuW CR H6 r ws → RuW CR (upd (upd H6 R (.lst (rs ++ [.ref a]))) O (.lst ((((lnsOf t).take i).map opn).map V.str ++ [.str (opn l)]))) r ws := fun r ws g => (g.updL h6R).updL h7O
        rcases Nat.lt_or_ge j rs.length with hj | hj
        · rw [List.getElem?_append_left hj] at h1
          exact grow r _ ((hru3 j r l' h1 h2).ext fun b u z _ => nfa b u (s4 b u z))
        · rw [List.getElem?_append_right hj] at h1
          have ej : j = i := by
            have := (List.getElem?_eq_some_iff.mp h1).1
            rw [List.length_singleton] at this
            omega
          subst ej
          rw [hrl, Nat.sub_self] at h1
          cases h1
          rw [hl] at h2
          cases h2
          exact grow _ _ ⟨a, dx, rfl, ha6⟩
    · rintro σ H2 ⟨rs, v3, v4, v5, rfl, s2, h2L, h2R, h2O, hrl, hru, efw, hi6⟩
      rw [List.length_map] at efw hrl hi6
      rw [List.drop_length] at efw
      refine ⟨_, rfl, R, rs, rfl, .inl ⟨SqL.of h2R, fun l hl => ?_⟩⟩
      exact qo efw _ l rs (same_new s2 hl _) upd_same hrl (by omega) fun j r l' h1 h2 => (hru j r l' h1 h2).same (same1 hl _)

end
end Vf

set_option maxRecDepth 100000
set_option maxHeartbeats 4000000
namespace Vf
open PySem PySem.Spec PyProof.Rows L2 SX
section
variable {P : Program} {w : World} {K : PySem.W.Frag} {mg : Str → Option Value} {base : Heap}
theorem pmL_len {op cl : Str} {nd : Nat} {db : Bool} {n d : Nat} : (pmL op cl nd db n d).length ≤ 3 := by
  unfold pmL
  have e1 : ∀ {c : Prop} [Decidable c] (x : Str × Int × Int × Int), (if c then [x] else []).length ≤ 1 := fun {c} _ x => by
    by_cases h : c
    · rw [if_pos h]; exact Nat.le_refl _
    · rw [if_neg h]; exact Nat.zero_le _
  rw [List.length_append, List.length_append]
  have a := e1 (c := cl ≠ "") (cl, if 1 < d then ((n : Int), (d : Int) - 1, (0 : Int)) else ((-1 : Int), (0 : Int), (0 : Int)))
  have b := e1 (c := d < nd) (op, ((n : Int), (d : Int) + 1, (0 : Int)))
  have c := e1 (c := db = true) (S (repL 2 (TL.tl cl)), ((n : Int), (d : Int), (0 : Int)))
  omega
theorem opL_len : ∀ {fs : List Fd} {k : Nat}, (∀ f ∈ fs, FdOk f) → ∀ m ∈ opL k fs, m.1.length ≤ 100
  | [], _, _, m, hm => by cases hm
  | f :: fs, k, h, m, hm => by
    rcases List.mem_cons.mp hm with rfl | hm
    · have := (h f (.head _)).1; show f.op.length ≤ 100; omega
    · exact opL_len (fun g hg => h g (.tail _ hg)) m hm
structure MI (P : Program) (w : World) (K : PySem.W.Frag) (P0 : Addr) (H1 : Hp) (p : Addr) (fs : List Fd) (i j : Nat) (xs : List Ent) (H' : Hp) : Prop where
  d1 : H' p = some (DX P w p xs)
  d2 : EntsAt K H' xs
  d3 : xs.length ≤ 1 + 4 * i + j
  d4 : LamX.ExtN H1 H'
  d5 : LamX.Tabs (T0 P0) H'
  d6 : KeyAt K H' xs (-1, 0, 0) (opL 0 fs)
  d7 : ∀ (i' : Nat) (f : Fd) (d : Nat), fs[i']? = some f → 1 ≤ d → d ≤ max f.nd 1 → (i' < i ∨ (i' = i ∧ d ≤ j)) → KeyAt K H' xs ((i' : Int), (d : Int), 0) (pmL f.op f.cl f.nd f.db i' d)
  d8 : ∀ n d : Int, ((i : Int) < n ∨ (n = i ∧ (j : Int) < d)) → atKey xs (keyOf (n, d, 0)) = none
section
variable {P : Program} {w : World} {K : PySem.W.Frag} {P0 p : Addr} {H1 H' H2 : Hp} {fs : List Fd} {i j : Nat} {xs : List Ent}
theorem MI.ext (h : MI P w K P0 H1 p fs i j xs H') (s : LamX.ExtN H' H2) (t : LamX.Tabs (T0 P0) H2) : MI P w K P0 H1 p fs i j xs H2 :=
  ⟨s _ _ h.d1 dx_ne.1, h.d2.ext s, h.d3, fun c o z n => s _ _ (h.d4 c o z n) n, t, h.d6.ext s, fun i' f d a b c e => (h.d7 i' f d a b c e).ext s, h.d8⟩
theorem MI.next {f : Fd} (h : MI P w K P0 H1 p fs i j xs H') (hf : fs[i]? = some f) (hj : j = max f.nd 1) (h4 : f.nd ≤ 4) : MI P w K P0 H1 p fs (i + 1) 0 xs H' := by
  refine ⟨h.d1, h.d2, by have := h.d3; omega, h.d4, h.d5, h.d6, fun i' g d a b c e => ?_, fun n d e => h.d8 n d (by omega)⟩
  refine h.d7 i' g d a b c ?_
  rcases e with e | e
  · rcases Nat.lt_or_ge i' i with z | z
    · exact .inl z
    · have : i' = i := by omega
      subst this
      rw [hf] at a
      cases a
      exact .inr ⟨rfl, by omega⟩
  · omega
theorem MI.put {b t : Addr} {ys : List V} {kys : List (Str × Int × Int × Int)} {f : Fd} (h : MI P w K P0 H1 p fs i j xs H') (hf : fs[i]? = some f) (nc : NoCode H' p) (ht : SqT K H' t [.int (i : Int), .int ((j + 1 : Nat) : Int), .int 0]) (nf : ∀ {c o}, H1 c = some o → c ≠ p)
    (hb : H' b = some (.tup ys)) (kp : kys.Perm (pmL f.op f.cl f.nd f.db i (j + 1))) (ks : kys.Pairwise fun p q => q.1.length ≤ p.1.length) (km : MksAt K H' ys kys) :
    MI P w K P0 H1 p fs i (j + 1) (storedH xs (keyOf ((i : Int), ((j + 1 : Nat) : Int), 0)) t (.ref b)) (upd H' p (DX P w p (storedH xs (keyOf ((i : Int), ((j + 1 : Nat) : Int), 0)) t (.ref b)))) := by
  have n0 := h.d8 (i : Int) ((j + 1 : Nat) : Int) (.inr ⟨rfl, by omega⟩)
  refine ⟨upd_same, EntsAt.updX (ents_stored h.d2 ht) h.d1, ?_, fun c o z n => by rw [upd_ne (nf z)]; exact h.d4 c o z n, tabs_updN h.d5 h.d1 dx_ne.1 nc, h.d6.put h.d1 n0, fun i' g d a b' c e => ?_, fun n d e => ?_⟩
  · have := storedH_length xs (keyOf ((i : Int), ((j + 1 : Nat) : Int), 0)) t (.ref b)
    have := h.d3
    omega
  · by_cases z : i' = i ∧ d = j + 1
    · obtain ⟨rfl, rfl⟩ := z
      rw [hf] at a
      cases a
      refine ⟨t, b, ys, kys, ?_, by rw [upd_ne (ne_of hb h.d1 fun z => dx_ne.2.1 _ z.symm)]; exact hb, kp, ks, km.imp fun v k q => q.updX h.d1⟩
      rw [at_stored n0, if_pos rfl]
    · exact (h.d7 i' g d a b' c (by omega)).put h.d1 n0
  · rw [at_stored n0, if_neg (fun z => ?_)]
    · exact h.d8 n d (by omega)
    · have := keyOf_inj z
      simp only [Prod.mk.injEq, and_true] at this
      omega
end
theorem ok2_Reader_init {f : Addr} {fd : FuncData} {q : Str} {CR CD CG P0 : Addr} (M : Mk K CD f) (gc : mg "Reader" = some (.ref CD)) (F : C8.Fun K "__init__" q s_Reader_init f fd) (b : Binds K fd ["self", "rules"] []) (T : Tx K w mg) (A0 : Ca K CR CD CG) (C_longestFirst : C8.Cal P w K mg base 4 "longest_first" (sp2_longestFirst K P0) []) (C_pieceMarks : C8.Cal P w K mg base 1 "piece_marks" (sp2_pieceMarks K CR) []) : C8.Mak P w K mg base 5 "Reader" CD (sp2_Reader_init P w K CR CD P0) [] := by
  refine C8.mak0 M gc F b .nil sc_Reader_init (fun vs H Q E h => ?_) (fun cdv A outer s H vs Q E hr h => ?_)
  · obtain ⟨a, dx, b, rs, fs, rfl, _⟩ := h; rfl
  have hu := hu_of hr
  refine ⟨_, (pss_cons (ps_fld (pv 0) (pv 1) rfl)
      (pss_cons (ps_set (i := 2) sc_Reader_init.nd rfl (Or.inl rfl) (pe_dispYK (P := P) (w := w) (K := K) rfl rfl rfl (Nat.lt_of_succ_lt hu) (C8.pe_gc rfl (Classical.choose_spec T.g_CODE).1) (C8.pe_c C_longestFirst hr (by decide) rfl (pa_cons (pe_lc (own := [("number", 3), ("rule", 4)]) (g := (gTup K 2 (gCons (gName 3) (gCons (gName 4) gNil)))) (tt := tYes) rfl sc_Reader_init.nd (pi_enumT (by rfl) T.z_enumerate (pa_cons (pv 1) pa_nil)) (blkOk_by (N := N_Reader_init) (sc := C8.fnScope s_Reader_init) (by decide +kernel)) (fun _ _ _ _ _ => pg_tup (by rfl) (pgs_cons (pg_name (i := 3) sc_Reader_init.nd rfl (Or.inl rfl)) (pgs_cons (pg_name (i := 4) sc_Reader_init.nd rfl (Or.inl rfl)) pgs_nil))) (fun _ _ _ _ _ => pts_nil) (fun _ _ _ _ _ => (pe_tup (pa_cons (pe_fldK (K := K) rfl (pv 4) rfl) (pa_cons (pe_tup (pa_cons (pv 3) (pa_cons pe_int (pa_cons pe_int pa_nil)))) pa_nil))))) pa_nil))))
      (pss_cons (ps_for PassesOwn.never rfl (pi_enumT (by rfl) T.z_enumerate (pa_cons (pv 1) pa_nil)) (pg_tup rfl (pgs_cons (pg_name (i := 3) sc_Reader_init.nd rfl (Or.inl rfl)) (pgs_cons (pg_name (i := 4) sc_Reader_init.nd rfl (Or.inl rfl)) pgs_nil)))
      (pss_one (ps_for PassesOwn.never rfl (pi_range2 (by rfl) T.z_range (pa_cons pe_int (pa_cons (pe_op op_add (pe_callB (call_max2 rfl) (by rfl) T.z_max (by decide +kernel) (pa_cons (pe_fld (pv 4) rfl) (pa_cons pe_int pa_nil))) pe_int) pa_nil))) (pg_name (i := 5) sc_Reader_init.nd rfl (Or.inl rfl))
      (pss_one (ps_dputYK (P := P) (w := w) (K := K) rfl rfl rfl hu (pv 2) (pe_tup (pa_cons (pv 3) (pa_cons (pv 5) (pa_cons pe_int pa_nil)))) (C8.pe_c C_longestFirst hr (by decide) rfl (pa_cons (C8.pe_c C_pieceMarks hr (by decide) rfl (pa_cons (pv 4) (pa_cons (pv 3) (pa_cons (pv 5) pa_nil)))) pa_nil)) rfl)))))
      (pss_one (ps_fld (pv 0) (pv 2) rfl))))), ?_⟩

  obtain ⟨a, dx, b, rs, fs, rfl, ha, hb, hz, hru, fok, tb, q⟩ := h
  have clD := A0.iD.cl
  have clR := A0.iR.cl
  have gC := (Classical.choose_spec T.g_CODE).2
  refine ⟨_, rfl, _, rfl, a, CD, dx, _, rfl, ha, clD, A0.d1, by decide, ?_⟩
  rw [show putF (Str.ofString "parts") (V.ref b) [] = [(Str.ofString "parts", V.ref b)] from rfl]
  have nab : b ≠ a := ne_of hb ha fun z => nomatch z
  have hb1 : (upd H a (.ins CD dx [("parts", .ref b)])) b = some (.tup rs) := by rw [upd_ne nab]; exact hb
  have ha1 : (upd H a (.ins CD dx [("parts", .ref b)])) a = some (.ins CD dx [("parts", .ref b)]) := upd_same
  have hru1 : FdsAt CR (upd H a (.ins CD dx [("parts", .ref b)])) rs fs := ⟨hru.1, fun j r f h1 h2 => by
    obtain ⟨a', dx', e, h3⟩ := hru.2 j r f h1 h2
    refine ⟨a', dx', e, ?_⟩
    rw [upd_ne fun z => by rw [z, ha] at h3; cases h3]
    exact h3⟩
  have tb1 : LamX.Tabs (T0 P0) (upd H a (.ins CD dx [("parts", .ref b)])) := tabs_upd tb ha (fun _ z => nomatch z) fun _ _ z => nomatch z
  have x1 : ExX a H (upd H a (.ins CD dx [("parts", .ref b)])) := fun c o n z _ => by rw [upd_ne n]; exact z
  generalize upd H a (.ins CD dx [("parts", .ref b)]) = H1 at hb1 ha1 hru1 tb1 x1 ⊢
  refine fun p hp => ⟨_, rfl, b, rs, rfl, SqT.of (by rw [upd_ne (ne_of_none hb1 hp)]; exact hb1), fun D hD => ?_⟩
  have hp1 : (upd H1 p (DX P w p [])) p = some (DX P w p []) := upd_same
  have s1 := same1 hp (DX P w p [])
  generalize hH2 : upd H1 p (DX P w p []) = H2 at hp1 s1 hD ⊢
  have tb2 : LamX.Tabs (T0 P0) H2 := tb1.ext s1
  refine lc_it walk_enumT (fun i H' => ∃ ms, PInvX K H2 D (opL 0 (fs.take i)) ms H') ⟨[], upd_same, same1 hD _, rfl, fun _ _ _ z => nomatch z⟩ (fun i H' _ ⟨_, z⟩ => SqT.of (z.2.1 _ _ (s1 _ _ hb1))) ?_ ?_
  · rintro i x H3 H4 hi ⟨ms, pi⟩ ⟨T', x', r, rfl, hT, rfl, ex, er⟩
    cases ex
    dsimp only at er
    have hil : i < fs.length := by rw [← hru1.1]; exact (List.getElem?_eq_some_iff.mp er).1
    have hf : fs[i]? = some fs[i] := List.getElem?_eq_getElem hil
    obtain ⟨a', dx', rfl, g1⟩ := hru1.2 i r _ er hf
    have eo : opL 0 (fs.take (i + 1)) = opL 0 (fs.take i) ++ [(fs[i].op, ((i : Nat) : Int), (1 : Int), (0 : Int))] := by
      rw [List.take_add_one, hf]
      show opL 0 (fs.take i ++ [fs[i]]) = _
      rw [opL_snoc, List.length_take, Nat.min_eq_left (by omega), Nat.zero_add]
    have sT := same1 hT (.tup [.int (i : Int), .ref a'])
    have g4 := sT _ _ (pi.2.1 _ _ (s1 _ _ g1))
    refine ⟨T', _, rfl, SqT.of upd_same, rfl, _, _, rfl, _, _, rfl, rfl, rfl, ?_⟩
    dsimp only [tYes]
    rw [if_pos rfl]
    refine ⟨_, rfl, a', CR, dx', _, _, rfl, g4, clR, A0.r2, rfl, _, rfl, sz_3, fun t1 ht1 => ⟨sz_2, fun t ht => ?_⟩⟩
    have s2 := same_new sT ht1 (.tup [.int (i : Int), .int 1, .int 0])
    have s3 := same_new s2 ht (.tup [.str fs[i].op, .ref t1])
    have g5 := (same1 ht (.tup [.str fs[i].op, .ref t1])) _ _ (show (upd (upd H3 T' (.tup [.int (i : Int), .ref a'])) t1 (.tup [.int (i : Int), .int 1, .int 0])) t1 = some (.tup [.int (i : Int), .int 1, .int 0]) from upd_same)
    have hml : ms.length ≤ 6 := by
      have := pi.2.2.1
      have e9 : ∀ (l : List Fd) (k : Nat), (opL k l).length = l.length := fun l => by
        induction l with
        | nil => intro k; rfl
        | cons x y ih => intro k; show (opL (k + 1) y).length + 1 = _; rw [ih]; rfl
      rw [e9, List.length_take] at this
      have := hru1.1
      omega
    exact ⟨ms, s3 _ _ pi.1, szL (by omega), _, by rw [eo]; exact pinvX_push hD pi s3 upd_same ⟨t1, rfl, SqT.of g5⟩⟩
  · rintro H3 ⟨ms, pi⟩
    rw [hru1.1, List.take_length] at pi
    have hml : ms.length ≤ 6 := by
      have := pi.2.2.1
      have e9 : ∀ (l : List Fd) (k : Nat), (opL k l).length = l.length := fun l => by
        induction l with
        | nil => intro k; rfl
        | cons x y ih => intro k; show (opL (k + 1) y).length + 1 = _; rw [ih]; rfl
      rw [e9] at this
      have := hru1.1
      omega
    refine ⟨D, ms, opL 0 fs, rfl, SqL.of pi.1, by omega, pi.2.2, opL_len fok, tb2.ext pi.2.1, fun H4 b4 ys4 kys4 e4 tb4 hb4 kp4 ks4 km4 => ?_⟩
    have hp4 := e4 _ _ (pi.2.1 _ _ hp1) dx_ne.1
    refine ⟨[.inl (-1), .inl 0, .inl 0], _, hp4, rfl, gC H4, fun u ru nc => ?_⟩
    obtain rfl : u = Value.ref b4 := ru
    have e14 : LamX.ExtN H1 H4 := fun c o z n => e4 c o (pi.2.1 _ _ (s1 _ _ z)) n
    have nf : ∀ {c o}, H1 c = some o → c ≠ p := fun z => ne_of_none z hp
    -- the loops
    refine ⟨_, rfl, b, rs, rfl, SqT.of (by rw [upd_ne (nf hb1)]; exact e14 _ _ hb1 (fun _ z => nomatch z)), ?_⟩
    have start : MI P w K P0 H1 p fs 0 0 [(keyOf (-1, 0, 0), Classical.choose T.g_CODE, .ref b4)] (upd H4 p (DX P w p [(keyOf (-1, 0, 0), Classical.choose T.g_CODE, .ref b4)])) := by
      refine ⟨upd_same, fun y hy => ?_, by show 1 ≤ 1; decide, fun c o z n => by rw [upd_ne (nf z)]; exact e14 c o z n, tabs_updN tb4 hp4 dx_ne.1 nc, ?_, fun i' f d a1 a2 a3 a4 => by omega, fun n d e => ?_⟩
      · rw [List.mem_singleton.mp hy]
        exact gC _
      · refine ⟨Classical.choose T.g_CODE, b4, ys4, kys4, ?_, by rw [upd_ne (ne_of hb4 hp4 fun z => dx_ne.2.1 _ z.symm)]; exact hb4, kp4, ks4, km4.imp fun v k q => q.updX hp4⟩
        exact at_snoc (xs := []) rfl |>.trans (if_pos rfl)
      · refine (at_snoc (xs := []) (k := keyOf (-1, 0, 0)) rfl).trans ?_
        rw [if_neg (fun z => by have := keyOf_inj z; simp only [Prod.mk.injEq, and_true] at this; omega)]
        rfl
    refine for_it walk_enumT (fun i σ H' => ∃ (v3 v4 v5 : Option V), σ = [some (.ref a), some (.ref b), some (.ref p), v3, v4, v5] ∧ ∃ xs : List Ent, MI P w K P0 H1 p fs i 0 xs H')
      ⟨none, none, none, rfl, _, start⟩ (fun i σ H' _ ⟨_, _, _, _, _, z⟩ => SqT.of (z.d4 _ _ hb1 fun _ z => nomatch z)) ?_ ?_
    · rintro i x σ H5 H6 hi ⟨v3, v4, v5, rfl, xs, mi⟩ ⟨T', x', r, rfl, hT, rfl, ex, er⟩
      cases ex
      dsimp only at er
      have hril := (List.getElem?_eq_some_iff.mp er).1
      have hil : i < fs.length := by rw [← hru1.1]; exact hril
      have hf : fs[i]? = some fs[i] := List.getElem?_eq_getElem hil
      obtain ⟨f1, f2, f3⟩ := fok fs[i] (List.getElem_mem hil)
      have hri := hru1.2 i r _ er hf
      generalize fs[i] = fd9 at hf f1 f2 f3 hri
      refine ⟨T', _, rfl, SqT.of upd_same, rfl, _, _, rfl, _, _, rfl, rfl, ?_⟩
      have sT := same1 hT (.tup [.int (i : Int), r])
      have mi' := mi.ext (extN_same sT) (mi.d5.ext sT)
      generalize upd H5 T' (.tup [.int (i : Int), r]) = H6 at mi' ⊢
      obtain ⟨a', dx', rfl, g1⟩ := hri
      have g4 := mi'.d4 _ _ g1 (fun _ z => nomatch z)
      refine ⟨_, rfl, a', CR, dx', _, _, rfl, g4, clR, A0.r4, rfl, _, _, rfl, _, _, rfl, rfl, ?_⟩
      obtain ⟨n, hn1, hn2, hn3, hn4⟩ : ∃ n : Nat, 1 ≤ n ∧ n ≤ 4 ∧ (if (1 : Int) > (fd9.nd : Int) then (1 : Int) else (fd9.nd : Int)) = (n : Int) ∧ n = max fd9.nd 1 := by
        by_cases z : (1 : Int) > (fd9.nd : Int)
        · exact ⟨1, by decide, by decide, by rw [if_pos z]; rfl, by omega⟩
        · exact ⟨fd9.nd, by omega, f3, by rw [if_neg z], by omega⟩
      rw [hn3]
      refine ⟨1, _, rfl, ⟨by decide, by decide, by omega, by omega⟩, ?_⟩
      have en : ((n : Int) + 1 - 1).toNat = n := by omega
      rw [en]
      refine for_range (lo := 1) (n := n) (fun j σ H' => ∃ (v5 : Option V), σ = [some (.ref a), some (.ref b), some (.ref p), some (.int (i : Int)), some (.ref a'), v5] ∧ ∃ xs : List Ent, MI P w K P0 H1 p fs i j xs H')
        ⟨_, rfl, xs, mi'⟩ ?_ ?_
      · rintro j σ H7 hj ⟨v5, rfl, xs, mi7⟩
        have g7 := mi7.d4 _ _ g1 (fun _ z => nomatch z)
        refine ⟨_, rfl, _, rfl, _, rfl, a', dx', fd9.k, fd9.op, fd9.cl, fd9.nd, fd9.es, fd9.db, fd9.ln, i, j + 1, by rw [show (1 : Int) + (j : Int) = ((j + 1 : Nat) : Int) by omega]; rfl, g7, f1, f2, fun H8 L ms s8 hL hLs hmk => ?_⟩
        have hml : ms.length ≤ 3 := by
          rw [hmk.1]
          exact pmL_len
        have hkl : ∀ m ∈ pmL fd9.op fd9.cl fd9.nd fd9.db i (j + 1), m.1.length ≤ 100 := by
          intro m hm
          unfold pmL at hm
          rcases List.mem_append.mp hm with z | z
          · split at z
            · rw [List.mem_singleton.mp z]; show fd9.cl.length ≤ 100; omega
            · cases z
          · rcases List.mem_append.mp z with z | z
            · split at z
              · rw [List.mem_singleton.mp z]; show fd9.op.length ≤ 100; omega
              · cases z
            · split at z
              · rw [List.mem_singleton.mp z]
                show (S (repL 2 (TL.tl fd9.cl))).length ≤ 100
                rw [S_len, rep_len, ← TL.len_tl]; omega
              · cases z
        have mi8 := mi7.ext (extN_same s8) (mi7.d5.ext s8)
        refine ⟨L, ms, _, rfl, SqL.of hLs, by omega, hmk, hkl, mi8.d5, fun H9 b9 ys9 kys9 e9 tb9 hb9 kp9 ks9 km9 => ?_⟩
        have mi9 := mi8.ext e9 tb9
        refine ⟨_, rfl, _, rfl, _, rfl, sz_3, fun t ht => ?_⟩
        have st := same1 ht (.tup [.int (i : Int), .int (1 + (j : Int)), .int 0])
        have mi10 := mi9.ext (extN_same st) (mi9.d5.ext st)
        have ht2 : (upd H9 t (.tup [.int (i : Int), .int (1 + (j : Int)), .int 0])) t = some (.tup [.int (i : Int), .int ((j + 1 : Nat) : Int), .int 0]) := by
          rw [upd_same, show (1 : Int) + (j : Int) = ((j + 1 : Nat) : Int) by omega]
        refine ⟨p, xs, keyOf ((i : Int), ((j + 1 : Nat) : Int), 0), t, rfl, mi10.d1, mi10.d2, rfl, SqT.of ht2, szB (by have := mi10.d3; omega), fun u ru nc => ?_⟩
        obtain rfl : u = Value.ref b9 := ru
        exact ⟨_, rfl, _, mi10.put hf nc (SqT.of ht2) nf (st _ _ hb9) kp9 ks9 (km9.imp fun v k q => q.same st)⟩
      · rintro σ H7 ⟨v5, rfl, xs, mi7⟩
        exact ⟨_, _, _, rfl, xs, mi7.next hf hn4 f3⟩
    · rintro σ H5 ⟨v3, v4, v5, rfl, xs, mi⟩
      have ha5 := mi.d4 _ _ ha1 (fun _ z => nomatch z)
      refine ⟨_, rfl, _, rfl, a, CD, dx, _, rfl, ha5, clD, A0.d2, (by decide : (1 : Nat) < 1000), ?_⟩
      have npa : p ≠ a := (ne_of_none ha1 hp).symm
      have hxa : ∀ {c o}, c ≠ a → H5 c = some o → (upd H5 a (.ins CD dx [("parts", .ref b), ("_marks", .ref p)])) c = some o := fun n z => by rw [upd_ne n]; exact z
      have mkA : ∀ v k, MkAt K H5 v k → MkAt K (upd H5 a (.ins CD dx [("parts", .ref b), ("_marks", .ref p)])) v k := fun v k ⟨t, u, ev, q1, b', e2, q2⟩ =>
        ⟨t, u, ev, hxa (ne_of q1 ha5 fun z => nomatch z) q1, b', e2, sqT_upd q2 ha5 (fun _ z => nomatch z) (fun _ _ z => nomatch z)⟩
      have keyA : ∀ {m ks}, KeyAt K H5 xs m ks → KeyAt K (upd H5 a (.ins CD dx [("parts", .ref b), ("_marks", .ref p)])) xs m ks := fun ⟨b2, b', ys, kys, q1, q2, q3, q4, q5⟩ =>
        ⟨b2, b', ys, kys, q1, hxa (ne_of q2 ha5 fun z => nomatch z) q2, q3, q4, q5.imp mkA⟩
      refine q _ p (fun c o n z m => ?_) (tabs_upd mi.d5 ha5 (fun _ z => nomatch z) fun _ _ z => nomatch z) upd_same ⟨xs, hxa npa mi.d1, fun y hy => sqT_upd (mi.d2 y hy) ha5 (fun _ z => nomatch z) (fun _ _ z => nomatch z), keyA mi.d6, fun i' f d a1 a2 a3 => keyA (mi.d7 i' f d a1 a2 a3 (.inl ?_))⟩
      · rw [upd_ne n]
        exact mi.d4 _ _ (x1 c o n z m) m
      · rw [hru1.1]
        exact (List.getElem?_eq_some_iff.mp a1).1

end
end Vf

set_option maxRecDepth 100000
set_option maxHeartbeats 4000000
namespace Vf
open PySem PySem.Spec PyProof.Rows L2 SX
section
variable {P : Program} {w : World} {K : PySem.W.Frag} {mg : Str → Option Value} {base : Heap}
theorem ok2_Rule_init {f : Addr} {fd : FuncData} {q : Str} {CR CD CG : Addr} (M : Mk K CR f) (gc : mg "Rule" = some (.ref CR)) (F : C8.Fun K "__init__" q s_Rule_init f fd) (b : Binds K fd ["self", "words"] []) (T : Tx K w mg) (A0 : Ca K CR CD CG) : C8.Mak P w K mg base 1 "Rule" CR (sp2_Rule_init K CR) [] := by
  refine C8.mak0 M gc F b .nil sc_Rule_init (fun vs H Q E h => ?_) (fun cdv A outer s H vs Q E hr h => ?_)
  · obtain ⟨a, dx, wa, ws, os, rfl, _⟩ := h; rfl
  have hu := hu_of hr
  refine ⟨_, (pss_cons (ps_set (i := 2) sc_Rule_init.nd rfl (Or.inl rfl) (pe_slice sl_list (pv 1) (po_some pe_int) po_none))
      (pss_cons (ps_fld (pv 0) (pe_ix ix_str (pe_ix ix_list (pv 1) pe_int (fun _ _ => rfl)) pe_int (fun _ _ => rfl)) rfl)
      (pss_cons (ps_fld (pv 0) (pe_ix ix_list (pv 1) pe_int (fun _ _ => rfl)) rfl)
      (C8.pss_cut (ps_fld (pv 0) (pe_ifExp (pt_cmpR op_eq (pe_ix ix_list (pv 1) pe_int (fun _ _ => rfl)) pe_str (nomark _)) pe_str (pe_ix ix_list (pv 1) pe_int (fun _ _ => rfl))) rfl)
      (C8.pss_cut (ps_fld (pv 0) (pe_ifExp (pt_cmpR op_in_seq pe_str (pv 2) rfl) (pe_callTy call_int_str (by rfl) T.z_int (by decide +kernel) (pa_cons (pe_ix ix_list (pv 2) (pe_op op_add (pe_bm PySem.F.plainAttrs_list PySem.F.slot_list_index PySem.F.type_list_index mt_index (pv 2) (pa_cons pe_str pa_nil)) pe_int) (fun _ _ => rfl)) pa_nil)) pe_int) rfl)
      (C8.pss_cut (ps_fld (pv 0) (pe_ifExp (pt_cmpR op_in_seq pe_str (pv 2) rfl) (pe_ix ix_list (pv 2) (pe_op op_add (pe_bm PySem.F.plainAttrs_list PySem.F.slot_list_index PySem.F.type_list_index mt_index (pv 2) (pa_cons pe_str pa_nil)) pe_int) (fun _ _ => rfl)) pe_str) rfl)
      (pss_cons (ps_fld (pv 0) (pe_cmpR op_in_seq pe_str (pv 2) rfl) rfl)
      (pss_one (ps_fld (pv 0) (pe_or (pe_cmpR op_eq (pe_ix ix_list (pv 1) pe_int (fun _ _ => rfl)) pe_str (nomark _)) (pe_one (pe_cmpR op_in_seq pe_str (pv 2) rfl))) rfl))))))))), ?_⟩

  obtain ⟨a, dx, wa, ws, os, rfl, ha, hw, cv, hz, q⟩ := h
  have cl := A0.iR.cl
  have h4 := cv.2.1
  refine ⟨_, rfl, 4, rfl, wa, _, rfl, hw, fun G hG => ?_⟩
  have eG : cutV (ws.map V.str) (some 4) none = (ws.drop 4).map V.str := (cut_from _ 4).trans (strs_drop ws 4)
  rw [eG]
  have aG : a ≠ G := ne_of_none ha hG
  have keep : ∀ o, ∀ b u, b ≠ a → H b = some u → (upd (upd H G (.lst ((ws.drop 4).map V.str))) a o) b = some u := fun o b u n e => by rw [upd_ne n, upd_ne (ne_of_none e hG)]; exact e
  have gL : ∀ o, (upd (upd H G (.lst ((ws.drop 4).map V.str))) a o) G = some (.lst ((ws.drop 4).map V.str)) := fun o => by rw [upd_ne aG.symm]; exact upd_same
  have ha1 : (upd H G (.lst ((ws.drop 4).map V.str))) a = some (.ins CR dx []) := by rw [upd_ne aG]; exact ha
  have hw1 : SqL K (upd H G (.lst ((ws.drop 4).map V.str))) wa (ws.map V.str) := sqL_same (same1 hG _) hw
  have hw2 : ∀ o, SqL K (upd (upd H G (.lst ((ws.drop 4).map V.str))) a o) wa (ws.map V.str) := fun o => sqL_ins hw1 ha1
  have k0 := kind_at2 (vd_0 cv.1 (by omega))
  have g0 : ws.getD 0 "" = ws[0] := getD_at (by omega)
  have g3 : ws.getD 3 "" = ws[3] := getD_at (by omega)
  have ek : (if ws[0] = "remark" then 114 else 113) = k0Of ws := by unfold k0Of; rw [g0]
  rw [ek] at k0
  have m1 := mk_len (vd_1 cv.1 (by omega))
  have w3 := vd_3 cv.1 h4
  refine ⟨_, rfl, wa, _, 0, _, rfl, rfl, hw1, at_strs (i := 0) (by omega), ws[0], _, k0Of ws, rfl, rfl, ?_, k0, ?_⟩
  · rcases vd_0 cv.1 (by omega) with z | z <;> rw [z] <;> exact szB (by decide +kernel)
  refine ⟨_, rfl, a, CR, dx, _, rfl, ha1, cl, A0.r1, by decide, ?_⟩
  refine ⟨_, rfl, wa, _, 1, _, rfl, rfl, hw2 _, at_strs (i := 1) (by omega), _, rfl, a, CR, dx, _, rfl, upd_same, cl, A0.r2, (by decide : (1 : Nat) < 1000), ?_⟩
  rw [upd_upd]
  refine ⟨fun σ' H' => ∃ cx : Str, cx = cOf ws ∧ σ' = [some (.ref a), some (.ref wa), some (.ref G)] ∧ H' = upd (upd H G (.lst ((ws.drop 4).map V.str))) a (.ins CR dx [("kind", .str ⟨#[k0Of ws]⟩), ("opener", .str ws[1]), ("closer", .str cx)]), ?_, ?_⟩
  · refine ⟨_, rfl, wa, _, 3, _, rfl, rfl, hw2 _, at_strs (i := 3) (by omega), rfl, _, rfl, ?_⟩
    rw [dS]
    rcases Decidable.em (ws[3] = "line") with c3 | c3
    · refine ify (decide_eq_true c3) ?_
      refine ⟨_, rfl, a, CR, dx, _, rfl, upd_same, cl, A0.r3, (by decide : (2 : Nat) < 1000), ?_⟩
      exact ⟨"", by unfold cOf; rw [g3, if_pos c3], rfl, by rw [upd_upd]; rfl⟩
    · refine ifn (decide_eq_false c3) ?_
      refine ⟨_, rfl, wa, _, 3, _, rfl, rfl, hw2 _, at_strs (i := 3) (by omega), ?_⟩
      refine ⟨_, rfl, a, CR, dx, _, rfl, upd_same, cl, A0.r3, (by decide : (2 : Nat) < 1000), ?_⟩
      exact ⟨ws[3], by unfold cOf; rw [g3, if_neg c3], rfl, by rw [upd_upd]; rfl⟩
  rintro σ' H' ⟨cx, hcx, rfl, rfl⟩
  refine ⟨fun σ' H' => ∃ nd : Nat, nd = dOf ws ∧ σ' = [some (.ref a), some (.ref wa), some (.ref G)] ∧ H' = upd (upd H G (.lst ((ws.drop 4).map V.str))) a (.ins CR dx [("kind", .str ⟨#[k0Of ws]⟩), ("opener", .str ws[1]), ("closer", .str cx), ("nested", .int (nd : Int))]), ?_, ?_⟩
  · refine ⟨_, rfl, G, _, rfl, .inl (SqL.of (gL _)), rfl, flat_strs _, _, rfl, ?_⟩
    rw [if_neg Bool.false_ne_true, inV_strs]
    by_cases c4 : ("nested" : Str) ∈ ws.drop 4
    · obtain ⟨u, hu1, hu2, _⟩ := opt_next cv (.inl rfl) c4
      obtain ⟨n1, n3⟩ := depth_of2 (hu2 rfl)
      obtain ⟨i1, i2⟩ := idx_first c4
      refine ify (decide_eq_true c4) ?_
      refine ⟨_, rfl, _, rfl, .inl ⟨rfl, _, SqL.of (gL _)⟩, G, _, _, (ws.drop 4).idxOf ("nested" : Str), _, rfl, rfl, SqL.of (gL _), rfl, flat_strs _, by rw [List.getElem?_map, i1]; rfl, eqv_self _, none_ahead i2, ?_⟩
      refine ⟨_, _, rfl, rfl, G, _, _, _, rfl, rfl, SqL.of (gL _), at_next hu1, u, (depN u : Int), rfl, n1, n3, ?_⟩
      refine ⟨_, rfl, a, CR, dx, _, rfl, upd_same, cl, A0.r4, (by decide : (3 : Nat) < 1000), ?_⟩
      exact ⟨depN u, by unfold dOf; rw [if_pos c4, getD_of hu1], rfl, by rw [upd_upd]; rfl⟩
    · refine ifn (decide_eq_false c4) ?_
      refine ⟨_, rfl, a, CR, dx, _, rfl, upd_same, cl, A0.r4, (by decide : (3 : Nat) < 1000), ?_⟩
      exact ⟨0, by unfold dOf; rw [if_neg c4], rfl, by rw [upd_upd]; rfl⟩
  rintro σ' H' ⟨nd, hnd, rfl, rfl⟩
  refine ⟨fun σ' H' => ∃ es : Str, es = eOf ws ∧ σ' = [some (.ref a), some (.ref wa), some (.ref G)] ∧ H' = upd (upd H G (.lst ((ws.drop 4).map V.str))) a (.ins CR dx [("kind", .str ⟨#[k0Of ws]⟩), ("opener", .str ws[1]), ("closer", .str cx), ("nested", .int (nd : Int)), ("escape", .str es)]), ?_, ?_⟩
  · refine ⟨_, rfl, G, _, rfl, .inl (SqL.of (gL _)), rfl, flat_strs _, _, rfl, ?_⟩
    rw [if_neg Bool.false_ne_true, inV_strs]
    by_cases c4 : ("escape" : Str) ∈ ws.drop 4
    · obtain ⟨u, hu1, _, hu2⟩ := opt_next cv (.inr rfl) c4
      obtain ⟨i1, i2⟩ := idx_first c4
      refine ify (decide_eq_true c4) ?_
      refine ⟨_, rfl, _, rfl, .inl ⟨rfl, _, SqL.of (gL _)⟩, G, _, _, (ws.drop 4).idxOf ("escape" : Str), _, rfl, rfl, SqL.of (gL _), rfl, flat_strs _, by rw [List.getElem?_map, i1]; rfl, eqv_self _, none_ahead i2, ?_⟩
      refine ⟨_, _, rfl, rfl, G, _, _, _, rfl, rfl, SqL.of (gL _), at_next hu1, ?_⟩
      refine ⟨_, rfl, a, CR, dx, _, rfl, upd_same, cl, A0.r5, (by decide : (4 : Nat) < 1000), ?_⟩
      exact ⟨u, by unfold eOf; rw [if_pos c4, getD_of hu1], rfl, by rw [upd_upd]; rfl⟩
    · refine ifn (decide_eq_false c4) ?_
      refine ⟨_, rfl, a, CR, dx, _, rfl, upd_same, cl, A0.r5, (by decide : (4 : Nat) < 1000), ?_⟩
      exact ⟨"", by unfold eOf; rw [if_neg c4], rfl, by rw [upd_upd]; rfl⟩
  rintro σ' H' ⟨es, hes, rfl, rfl⟩
  refine ⟨_, rfl, G, _, rfl, .inl (SqL.of (gL _)), rfl, flat_strs _, ?_⟩
  rw [if_neg Bool.false_ne_true, inV_strs]
  refine ⟨_, rfl, a, CR, dx, _, rfl, upd_same, cl, A0.r6, (by decide : (5 : Nat) < 1000), ?_⟩
  rw [upd_upd]
  have e1 : ws.getD 1 "" = ws[1] := getD_at (by omega)
  have fin : ∀ ln : Bool, ln = lnOf ws → Q .non (upd (upd H G (.lst ((ws.drop 4).map V.str))) a (.ins CR dx (ruF ⟨#[k0Of ws]⟩ ws[1] cx nd es (decide (("doubled" : Str) ∈ ws.drop 4)) ln))) := fun ln el => by
    refine q _ (fun b u n e => keep _ b u n e) ?_
    rw [upd_same, hcx, hnd, hes, el, ← e1]
    rfl
  refine ⟨_, rfl, wa, _, 3, _, rfl, rfl, hw2 _, at_strs (i := 3) (by omega), rfl, _, rfl, ?_⟩
  rw [dS]
  rcases Decidable.em (ws[3] = "line") with c3 | c3
  · refine ify (decide_eq_true c3) ?_
    refine ⟨_, rfl, a, CR, dx, _, rfl, upd_same, cl, A0.r7, (by decide : (6 : Nat) < 1000), ?_⟩
    show Q .non _
    rw [upd_upd]
    exact fin true (by unfold lnOf; rw [g3, decide_eq_true c3]; rfl)
  · refine ifn (decide_eq_false c3) ?_
    refine ⟨_, rfl, G, _, rfl, .inl (SqL.of (gL _)), rfl, flat_strs _, ?_⟩
    refine ⟨_, rfl, a, CR, dx, _, rfl, upd_same, cl, A0.r7, (by decide : (6 : Nat) < 1000), ?_⟩
    show Q .non _
    rw [upd_upd]
    exact fin _ (by unfold lnOf; rw [g3, decide_eq_false c3, if_neg Bool.false_ne_true, inV_strs]; rfl)

end
end Vf

set_option maxRecDepth 100000
set_option maxHeartbeats 4000000
namespace Vf
open PySem PySem.Spec PyProof.Rows L2 SX
section
variable {P : Program} {w : World} {K : PySem.W.Frag} {mg : Str → Option Value} {base : Heap}
theorem ok2_ruleLine {f : Addr} {fd : FuncData} (F : C8.Def K mg "_law_rule_line" s_ruleLine f fd) (b : Binds K fd ["_law_rule"] []) (T : Tx K w mg)  : C8.Cal P w K mg base 1 "_law_rule_line" sp2_ruleLine [] := by
  refine C8.cal0 F b .nil sc_ruleLine (fun vs H Q E h => ?_) (fun cdv A outer s H vs Q E hr h => ?_)
  · obtain ⟨v, r, rfl, _⟩ := h; rfl
  have hu := hu_of hr
  refine ⟨_, (pss_cons (ps_asg (pv 0) (pg_tup (by rfl) (pgs_cons (pg_name (i := 1) sc_ruleLine.nd rfl (Or.inl rfl)) (pgs_cons (pg_name (i := 2) sc_ruleLine.nd rfl (Or.inl rfl)) (pgs_cons (pg_name (i := 3) sc_ruleLine.nd rfl (Or.inl rfl)) (pgs_cons (pg_name (i := 4) sc_ruleLine.nd rfl (Or.inl rfl)) (pgs_cons (pg_name (i := 5) sc_ruleLine.nd rfl (Or.inl rfl)) (pgs_cons (pg_name (i := 6) sc_ruleLine.nd rfl (Or.inl rfl)) (pgs_cons (pg_name (i := 7) sc_ruleLine.nd rfl (Or.inl rfl)) pgs_nil)))))))))
      (C8.pss_cut (ps_set (i := 8) sc_ruleLine.nd rfl (Or.inl rfl) (pe_op op_cat (pe_lst (pa_cons (pv 1) (pa_cons (pv 2) (pa_cons pe_str (pa_cons (pe_ifExp (pt_cmpR op_ne (pv 3) pe_str (nomark _)) (pv 3) pe_str) pa_nil))))) (pe_ifExp (pt_cmpR op_gt (pv 4) pe_int (nomark _)) (pe_lst (pa_cons pe_str (pa_cons (pe_callTy call_str_int (by rfl) T.z_str (by decide +kernel) (pa_cons (pv 4) pa_nil)) pa_nil))) (pe_lst pa_nil))))
      (C8.pss_cut (ps_set (i := 8) sc_ruleLine.nd rfl (Or.inl rfl) (pe_op op_cat (pe_op op_cat (pv 8) (pe_ifExp (pt_cmpR op_ne (pv 5) pe_str (nomark _)) (pe_lst (pa_cons pe_str (pa_cons (pv 5) pa_nil))) (pe_lst pa_nil))) (pe_ifExp (pt_val (pv 6)) (pe_lst (pa_cons pe_str pa_nil)) (pe_lst pa_nil))))
      (pss_one (ps_ret (pe_join pe_str (pe_op op_cat (pv 8) (pe_ifExp (pt_val (pv 7)) (pe_lst (pa_cons pe_str pa_nil)) (pe_lst pa_nil))))))))), ?_⟩

  obtain ⟨v, r, rfl, ⟨a, rfl, ha, ok⟩, q⟩ := h
  obtain ⟨k, o, c, d, e, b1, b2⟩ := r
  dsimp only at ha
  have step : ∀ {t : TS} {u : TS} {D : Ends} {σ : L2.St} {H1 : Hp} (ws : List Str), t { D with nx := fun σ' H' => ∃ B, σ' = [some (.ref a), some (.str k), some (.str o), some (.str c), some (.int (d : Int)), some (.str e), some (.bl b1), some (.bl b2), some (.ref B)] ∧ LwX H B ws H' } σ H1 → (∀ (B : Addr) (H' : Hp), LwX H B ws H' → u D [some (.ref a), some (.str k), some (.str o), some (.str c), some (.int (d : Int)), some (.str e), some (.bl b1), some (.bl b2), some (.ref B)] H') → C8.tCut t u D σ H1 := fun _ h1 h2 => ⟨_, h1, fun σ' H' ⟨m, e1, e2⟩ => by rw [e1]; exact h2 m H' e2⟩
  refine ⟨_, rfl, a, _, rfl, SqT.of ha, rfl, _, _, rfl, _, _, rfl, _, _, rfl, _, _, rfl, _, _, rfl, _, _, rfl, _, _, rfl, rfl, ?_⟩
  let w0 : List Str := [k, o, "to", if c = "" then "line" else c]
  let g1 : List Str := if 0 < d then ["nested", sd d] else []
  let g2 : List Str := if e ≠ "" then ["escape", e] else []
  let g3 : List Str := if b1 = true then ["doubled"] else []
  let g4 : List Str := if b2 = true then ["line"] else []
  have ew : wordsOf ⟨k, o, c, d, e, b1, b2⟩ = w0 ++ (g1 ++ (g2 ++ (g3 ++ g4))) := rfl
  have wl := words_len (r := ⟨k, o, c, d, e, b1, b2⟩)
  rw [ew] at wl
  simp only [List.length_append] at wl
  have hd4 : d ≤ 4 := ok.hd.elim (fun z => by have : d = 0 := z; omega) fun z => by have : d = 2 ∨ d = 3 ∨ d = 4 := z.1; omega
  refine step (w0 ++ g1) ?_ fun B H1 i1 => step (((w0 ++ g1) ++ g2) ++ g3) ?_ fun B2 H2 i2 => ?_
  · refine ⟨_, rfl, _, rfl, _, rfl, rfl, _, rfl, ?_⟩
    refine ifv (.str c) (.str "line") (fun R z => ⟨_, rfl, z⟩) (fun R z => z) fun v hv => ?_
    have hv' : v = .str (if c = "" then "line" else c) := by
      rw [dS] at hv
      rcases hv with ⟨z, rfl⟩ | ⟨z, rfl⟩
      · rw [if_neg (fun y => by rw [decide_eq_true y] at z; cases z)]
      · by_cases y : c = ""
        · rw [if_pos y]
        · rw [decide_eq_false y] at z; cases z
    subst hv'
    refine ⟨szB (n := 4) (by decide), fun B hB => ⟨_, rfl, _, _, rfl, rfl, _, rfl, ?_⟩⟩
    have i0 : LwX H B w0 (upd H B (.lst (w0.map V.str))) := ⟨same1 hB _, upd_same⟩
    refine ifl2 (A := (["nested", sd d] : List Str).map V.str) (fun R z => ⟨_, rfl, _, rfl, Nat.lt_of_le_of_lt (Nat.log2_le_self _) (by omega), szB (n := 2) (by decide), z⟩) fun Y H3 ys s3 hY hy => ?_
    have hy' : ys = g1.map V.str := by
      rw [hy, ifmap]
      show _ = (if 0 < d then (["nested", sd d] : List Str) else []).map V.str
      by_cases z : 0 < d
      · rw [if_pos z, if_pos (decide_eq_true (by omega))]
      · rw [if_neg z, if_neg (by rw [decide_eq_false (by omega)]; exact Bool.false_ne_true)]
    subst hy'
    exact lwX_cat i0 s3 hY (by omega) fun D H4 _ i4 => ⟨D, rfl, i4⟩
  · refine ⟨_, rfl, _, rfl, rfl, _, rfl, ?_⟩
    refine ifl2 (A := (["escape", e] : List Str).map V.str) (fun R z => ⟨_, rfl, szB (n := 2) (by decide), z⟩) fun Y H3 ys s3 hY hy => ?_
    have hy' : ys = g2.map V.str := by
      rw [hy, ifmap]
      show _ = (if e ≠ "" then (["escape", e] : List Str) else []).map V.str
      rw [dS]
      by_cases z : e = ""
      · rw [if_neg (by rw [decide_eq_true z]; exact Bool.false_ne_true), if_neg (fun y => y z)]
      · rw [if_pos (by rw [decide_eq_false z]; rfl), if_pos z]
    subst hy'
    refine lwX_cat i1 s3 hY (by rw [List.length_append]; omega) fun D H4 _ i4 => ⟨_, rfl, _, rfl, ?_⟩
    refine ifl2 (A := (["doubled"] : List Str).map V.str) (fun R z => ⟨szB (n := 1) (by decide), z⟩) fun Y H3 ys s3 hY hy => ?_
    have hy' : ys = g3.map V.str := by rw [hy, ifmap]
    subst hy'
    exact lwX_cat i4 s3 hY (by rw [List.length_append, List.length_append]; omega) fun D H4 _ i4 => ⟨D, rfl, i4⟩
  · refine ⟨⟨_, rfl⟩, _, rfl, _, rfl, _, rfl, ?_⟩
    refine ifl2 (A := (["line"] : List Str).map V.str) (fun R z => ⟨szB (n := 1) (by decide), z⟩) fun Y H3 ys s3 hY hy => ?_
    have hy' : ys = g4.map V.str := by rw [hy, ifmap]
    subst hy'
    refine lwX_cat i2 s3 hY (by rw [List.length_append, List.length_append, List.length_append]; omega) fun D H4 _ i4 => ?_
    have ew2 : (((w0 ++ g1) ++ g2) ++ g3) ++ g4 = wordsOf ⟨k, o, c, d, e, b1, b2⟩ := by rw [ew]; simp only [List.append_assoc]
    rw [ew2] at i4
    obtain ⟨s4, hD⟩ := i4
    have lb := words_short ok
    have wl2 := words_len (r := ⟨k, o, c, d, e, b1, b2⟩)
    refine ⟨_, D, _, rfl, rfl, .inl (SqL.of hD), ?_, q H4 s4⟩
    have := lens_sum lb
    have h1 : (" " : Str).length = 1 := by decide +kernel
    rw [h1]
    omega

end
end Vf

set_option maxRecDepth 100000
set_option maxHeartbeats 4000000
namespace Vf
open PySem PySem.Spec PyProof.Rows L2 SX
section
variable {P : Program} {w : World} {K : PySem.W.Frag} {mg : Str → Option Value} {base : Heap}
def wsR (r : Rr) : List Str := ([r.o, r.c, r.e] : List Str).filter fun x : Str => decide (x ≠ "")
theorem wsR_mk {r : Rr} (h : RrOk r) : ∀ x ∈ wsR r, isMk x = true := fun x hx => by
  obtain ⟨h1, h2⟩ := List.mem_filter.mp hx
  have h2 : x ≠ "" := of_decide_eq_true h2
  simp only [List.mem_cons, List.not_mem_nil, or_false] at h1
  rcases h1 with rfl | rfl | rfl
  · exact h.ho
  · exact h.hc.resolve_left h2
  · exact (h.he.resolve_left h2).1
theorem wsR_len (r : Rr) : (wsR r).length ≤ 3 := List.length_filter_le ..
theorem wsR_pos {r : Rr} (h : RrOk r) : 1 ≤ (wsR r).length := by
  have : r.o ∈ wsR r := List.mem_filter.mpr ⟨.head _, decide_eq_true (mk_not h.ho).2.2.2.2⟩
  exact List.length_pos_of_mem this
theorem wsF_len : ∀ qs : List Rr, (qs.flatMap wsR).length ≤ 3 * qs.length
  | [] => Nat.le_refl _
  | r :: qs => by
    rw [List.flatMap_cons, List.length_append, List.length_cons]
    have := wsF_len qs
    have := wsR_len r
    omega
theorem ok_ruleWords {f : Addr} {fd : FuncData} (F : C8.Def K mg "_law_rule_words" s_ruleWords f fd) (b : Binds K fd ["_law_rules"] []) (T : Tx K w mg)  : C8.Cal P w K mg base 1 "_law_rule_words" sp_ruleWords [] := by
  refine C8.cal0 F b .nil sc_ruleWords (fun vs H Q E h => ?_) (fun cdv A outer s H vs Q E hr h => ?_)
  · obtain ⟨_, _, rfl, _⟩ := h; rfl
  have hu := hu_of hr
  refine ⟨_, (pss_cons (ps_set (i := 1) sc_ruleWords.nd rfl (Or.inl rfl) (pe_lst pa_nil))
      (pss_cons (ps_for PassesOwn.never rfl (pi_list (pv 0)) (pg_name (i := 2) sc_ruleWords.nd rfl (Or.inl rfl))
      (pss_one (ps_set (i := 1) sc_ruleWords.nd rfl (Or.inl rfl) (pe_op op_cat (pv 1) (pe_lc (own := [("_law_word_here", 3)]) (g := (gName 3)) (tt := _) rfl sc_ruleWords.nd (pi_tup (pe_tup (pa_cons (pe_ix ix_tup (pv 2) pe_int (fun _ _ => rfl)) (pa_cons (pe_ix ix_tup (pv 2) pe_int (fun _ _ => rfl)) (pa_cons (pe_ix ix_tup (pv 2) pe_int (fun _ _ => rfl)) pa_nil))))) (blkOk_by (N := N_ruleWords) (sc := C8.fnScope s_ruleWords) (by decide +kernel)) (fun _ _ _ _ _ => pg_name (i := 3) sc_ruleWords.nd rfl (Or.inl rfl)) (fun _ _ _ _ _ => pts_one (pt_cmpR op_ne (pv 3) pe_str (nomark _))) (fun _ _ _ _ _ => (pv 3)))))))
      (pss_one (ps_ret (pv 1))))), ?_⟩

  obtain ⟨L, qs, rfl, hL, ok, q⟩ := h
  obtain ⟨rs, hr, hl, hat⟩ := id hL
  refine ⟨szB (by decide), fun W0 hW0 => ?_⟩
  have s0 := same1 hW0 (.lst [])
  refine ⟨_, rfl, L, rfl, ⟨_, SqL.of (s0 _ _ hr)⟩, ?_⟩
  refine for_list (K := K) (a := L) (xs := rs) (fun i σ H' => ∃ (W : Addr) (v2 : Option V), σ = [some (.ref L), some (.ref W), v2, none] ∧ H W = none ∧ H' W = some (.lst (((qs.take i).flatMap wsR).map V.str)) ∧ Same H H') ⟨W0, none, rfl, hW0, upd_same, s0⟩ (fun i σ H' _ ⟨_, _, _, _, _, z⟩ => SqL.of (z _ _ hr)) ?_ ?_
  · rintro i x σ H1 hx ⟨W, v2, rfl, hW, h1, s1⟩
    have hil : i < qs.length := by rw [← hl]; exact (List.getElem?_eq_some_iff.mp hx).1
    have hq : qs[i]? = some qs[i] := List.getElem?_eq_getElem hil
    obtain ⟨a, rfl, ha, ro⟩ := (hat i x _ hx hq).tk fun b xs z => s1 _ _ z
    generalize qs[i] = r at hq ha ro
    refine ⟨_, rfl, _, rfl, a, _, 1, _, rfl, rfl, SqT.of ha, rfl, _, rfl, a, _, 2, _, rfl, rfl, SqT.of ha, rfl, _, rfl, a, _, 4, _, rfl, rfl, SqT.of ha, rfl, szB (show 3 ≤ 1000000 by decide), fun T1 hT1 => ?_⟩
    have sT := same1 hT1 (.tup [.str r.o, .str r.c, .str r.e])
    refine ⟨T1, rfl, ⟨_, SqT.of upd_same⟩, fun D hD => ?_⟩
    have sD := same1 hD (.lst [])
    have hTD : (upd (upd H1 T1 (.tup [.str r.o, .str r.c, .str r.e])) D (.lst [])) T1 = some (.tup [.str r.o, .str r.c, .str r.e]) := sD _ _ upd_same
    refine lc_tup (K := K) (a := T1) (xs := [.str r.o, .str r.c, .str r.e]) (fun j H' => H' D = some (.lst (((([r.o, r.c, r.e] : List Str).take j).filter fun x : Str => decide (x ≠ "")).map V.str)) ∧ Same (upd H1 T1 (.tup [.str r.o, .str r.c, .str r.e])) H') ⟨upd_same, sD⟩ (fun j H' _ z => SqT.of (z.2 _ _ upd_same)) ?_ ?_
    · rintro j y H2 hy ⟨g1, g2⟩
      obtain ⟨z, hz, rfl⟩ : ∃ z, ([r.o, r.c, r.e] : List Str)[j]? = some z ∧ y = .str z := by
        match j, hy with
        | 0, hy => cases hy; exact ⟨_, rfl, rfl⟩
        | 1, hy => cases hy; exact ⟨_, rfl, rfl⟩
        | 2, hy => cases hy; exact ⟨_, rfl, rfl⟩
      refine ⟨rfl, _, rfl, rfl, _, rfl, ?_⟩
      by_cases hz0 : z = ""
      · refine ifn (by rw [hz0, decide_eq_true rfl]; rfl) ⟨?_, g2⟩
        rw [g1, List.take_add_one, hz, List.filter_append]
        have : (some z).toList.filter (fun x : Str => decide (x ≠ "")) = [] := by
          show [z].filter _ = []
          rw [List.filter_cons_of_neg (by rw [decide_eq_false (fun k => k hz0)]; exact Bool.false_ne_true)]; rfl
        rw [this, List.append_nil]
      · refine ify (by rw [decide_eq_false (fun k => hz0 (V.str.inj k))]; rfl) ⟨_, rfl, _, g1, szL ?_, ?_, fun c o k => by rw [upd_ne (ne_of_none k hD)]; exact g2 _ _ k⟩
        · rw [List.length_map]
          have := List.length_filter_le (fun x : Str => decide (x ≠ "")) (([r.o, r.c, r.e] : List Str).take j)
          rw [List.length_take] at this
          show _ ≤ 1000000
          have : ([r.o, r.c, r.e] : List Str).length = 3 := rfl
          omega
        · rw [upd_same, List.take_add_one, hz, List.filter_append]
          have : (some z).toList.filter (fun x : Str => decide (x ≠ "")) = [z] := by
            show [z].filter _ = [z]
            rw [List.filter_cons_of_pos (p := fun x : Str => decide (x ≠ "")) (decide_eq_true hz0)]; rfl
          rw [this, List.map_append]; rfl
    · rintro H2 ⟨g1, g2⟩
      have g1' : H2 D = some (.lst ((wsR r).map V.str)) := g1
      have h12 := g2 _ _ (sT _ _ h1)
      refine ⟨W, D, _, _, rfl, rfl, h12, g1', szB ?_, fun N hN => ?_⟩
      · rw [List.length_map, List.length_map]
        have := wsF_len (qs.take i)
        have := wsR_len r
        rw [List.length_take] at *
        have := ok.2.2.2
        omega
      have s2 : Same H (upd H2 N (.lst ((((qs.take i).flatMap wsR).map V.str) ++ (wsR r).map V.str))) := fun c o z => same1 hN _ _ _ (g2 _ _ (sT _ _ (s1 _ _ z)))
      refine ⟨N, _, rfl, ?_, ?_, s2⟩
      · cases e : H N with
        | none => rfl
        | some o => rw [g2 _ _ (sT _ _ (s1 _ _ e))] at hN; cases hN
      · rw [upd_same, List.take_add_one, hq, List.flatMap_append, List.map_append]
        simp
  · rintro σ H1 ⟨W, v2, rfl, hW, h1, s1⟩
    rw [hl, List.take_of_length_le (Nat.le_refl _)] at h1
    refine ⟨_, rfl, q H1 W _ s1 hW h1 ?_ ?_ fun x hx => ?_⟩
    · match qs, ok.2.2.1, ok.1 with
      | r :: qs, _, ok1 =>
        rw [List.flatMap_cons, List.length_append]
        have := wsR_pos (ok1 r (.head _))
        omega
    · have := wsF_len qs
      have := ok.2.2.2
      omega
    · obtain ⟨r, hr2, hx2⟩ := List.mem_flatMap.mp hx
      exact wsR_mk (ok.1 r hr2) x hx2

end
end Vf

set_option maxRecDepth 100000
set_option maxHeartbeats 4000000
namespace Vf
open PySem PySem.Spec PyProof.Rows L2 SX
section
variable {P : Program} {w : World} {K : PySem.W.Frag} {mg : Str → Option Value} {base : Heap}
theorem ok_tongueText {f : Addr} {fd : FuncData} (F : C8.Def K mg "_law_tongue_text" s_tongueText f fd) (b : Binds K fd ["_law_rules"] []) (T : Tx K w mg) (C_ruleLine : C8.Cal P w K mg base 1 "_law_rule_line" sp2_ruleLine []) : C8.Cal P w K mg base 2 "_law_tongue_text" sp_tongueText [] := by
  refine C8.cal0 F b .nil sc_tongueText (fun vs H Q E h => ?_) (fun cdv A outer s H vs Q E hr h => ?_)
  · obtain ⟨_, _, rfl, _⟩ := h; rfl
  have hu := hu_of hr
  refine ⟨_, (pss_one (ps_ret (pe_join pe_str (pe_lc (own := [("_law_rule", 1)]) (g := (gName 1)) (tt := tYes) rfl sc_tongueText.nd (pi_list (pv 0)) (blkOk_by (N := N_tongueText) (sc := C8.fnScope s_tongueText) (by decide +kernel)) (fun _ _ _ _ _ => pg_name (i := 1) sc_tongueText.nd rfl (Or.inl rfl)) (fun _ _ _ _ _ => pts_nil) (fun _ _ _ _ _ => (C8.pe_c C_ruleLine hr (by decide) rfl (pa_cons (pv 1) pa_nil))))))), ?_⟩

  obtain ⟨L, qs, rfl, hL, ok, q⟩ := h
  obtain ⟨rs, hr, hl, hat⟩ := id hL
  refine ⟨⟨_, rfl⟩, _, rfl, L, rfl, ⟨_, SqL.of hr⟩, fun D hD => ?_⟩
  refine lc_list (K := K) (a := L) (xs := rs) (fun i H' => H' D = some (.lst (((qs.take i).map lineOf).map V.str)) ∧ Same H H') ⟨upd_same, same1 hD _⟩ (fun i H' _ z => SqL.of (z.2 _ _ hr)) ?_ ?_
  · rintro i x H4 hx ⟨g1, g2⟩
    have hil : i < qs.length := by rw [← hl]; exact (List.getElem?_eq_some_iff.mp hx).1
    have hq : qs[i]? = some qs[i] := List.getElem?_eq_getElem hil
    have r7 := (hat i x _ hx hq).tk fun b xs z => g2 _ _ z
    refine ⟨rfl, ?_⟩
    dsimp only [tYes]
    rw [if_pos rfl]
    refine ⟨_, rfl, x, _, rfl, r7, fun H5 s5 => ?_⟩
    refine ⟨_, s5 _ _ g1, szL (by rw [List.length_map, List.length_map, List.length_take]; have := ok.2.2.2; omega), ?_, fun c o y => by rw [upd_ne (ne_of_none y hD)]; exact s5 _ _ (g2 _ _ y)⟩
    rw [upd_same, List.take_add_one, hq, List.map_append, List.map_append]; rfl
  · rintro H4 ⟨g1, g2⟩
    rw [hl, List.take_of_length_le (Nat.le_refl _)] at g1
    refine ⟨_, D, qs.map lineOf, rfl, rfl, .inl (SqL.of g1), ?_, ?_⟩
    · have := lens_sum (b := 100) (ls := qs.map lineOf) fun l hl => by
        obtain ⟨r, hr, rfl⟩ := List.mem_map.mp hl
        exact (line_good (ok.1 r hr)).1
      rw [List.length_map] at this
      have := ok.2.2.2
      rw [List.length_map, show ("\n" : Str).length = 1 by decide +kernel]
      have : qs.length * 100 ≤ 8 * 100 := Nat.mul_le_mul_right _ ok.2.2.2
      omega
    · exact q H4 g2

end
end Vf

set_option maxRecDepth 100000
set_option maxHeartbeats 4000000
namespace Vf
open PySem PySem.Spec PyProof.Rows L2 SX
section
variable {P : Program} {w : World} {K : PySem.W.Frag} {mg : Str → Option Value} {base : Heap}
theorem ok_walkRight {f : Addr} {fd : FuncData} (F : C8.Def K mg "_law_walk_right" s_walkRight f fd) (b : Binds K fd ["_law_rules", "_law_text", "_law_signs", "_law_told", "_law_ended"] []) (T : Tx K w mg) (C_allPairs : C8.Cal P w K mg base 1 "_law_all_pairs" sp_allPairs []) (C_pairsDue : C8.Cal P w K mg base 4 "_law_pairs_due" sp_pairsDue []) : CalG P w K mg base 5 "_law_walk_right" sp_walkRight := by
  refine calG F b sc_walkRight (fun vs H Q E h => ?_) (fun cdv A outer s H vs Q E hr hgd h => ?_)
  · obtain ⟨_, _, _, _, _, _, _, _, _, _, _, _, rfl, _⟩ := h; rfl
  have hu := hu_of hr
  have hu64 := hr.units
  refine ⟨_, (pss_cons (ps_set (i := 5) sc_walkRight.nd rfl (Or.inl rfl) pe_int)
      (pss_cons (ps_for PassesOwn.never rfl (pi_range1 (by rfl) T.z_range (pa_cons (pe_callB call_len (by rfl) T.z_len PySem.boot_len (pa_cons (pv 2) pa_nil)) pa_nil)) (pg_name (i := 6) sc_walkRight.nd rfl (Or.inl rfl))
      (pss_cons (ps_if (pt_not (pt_val (pe_callB call_isi (by rfl) T.z_isinstance (by decide +kernel) (pa_cons (pe_ix ix_list (pv 3) (pv 6) (fun _ _ => rfl)) (pa_cons (pe_bltn (v := .ty "tuple") (by rfl) T.z_tuple (by decide +kernel) rfl) pa_nil)))))
      (pss_one (ps_ret pe_bl))
      pss_nil)
      (pss_cons (ps_set (i := 5) sc_walkRight.nd rfl (Or.inl rfl) (pe_op op_add (pv 5) (pe_callB call_len (by rfl) T.z_len PySem.boot_len (pa_cons (pe_ix ix_list (pv 3) (pv 6) (fun _ _ => rfl)) pa_nil))))
      (pss_one (ps_if (PW.pt (pw_and (pt_cmpR op_in_sign (pe_ix ix_str (pv 1) (pv 6) (fun _ _ => rfl)) pe_str rfl) (pw_and1 (pt_cmpR op_ne (pv 5) (pe_op op_add (pv 6) pe_int) (nomark _)))))
      (pss_one (ps_ret pe_bl))
      pss_nil)))))
      (pss_cons (ps_if (pt_not (pt_val (pe_callB call_isi (by rfl) T.z_isinstance (by decide +kernel) (pa_cons (pv 4) (pa_cons (pe_bltn (v := .ty "tuple") (by rfl) T.z_tuple (by decide +kernel) rfl) pa_nil)))))
      (pss_one (ps_ret pe_bl))
      pss_nil)
      (pss_one (ps_ret (pe_cmpR op_eq (pe_callB (cr_alt (call_reprD hgd hu64) call_reprS) (by rfl) T.z_repr (by decide +kernel) (pa_cons (C8.pe_c C_allPairs hr (by decide) rfl (pa_cons (pe_op op_cat (pv 3) (pe_lst (pa_cons (pv 4) pa_nil))) pa_nil)) pa_nil)) (pe_callB (cr_alt (call_reprD hgd hu64) call_reprS) (by rfl) T.z_repr (by decide +kernel) (pa_cons (C8.pe_c C_pairsDue hr (by decide) rfl (pa_cons (pv 0) (pa_cons (pv 1) (pa_cons (pv 2) pa_nil)))) pa_nil)) (nomark _))))))), ?_⟩

  obtain ⟨L, B, E0, qs, t, b, pv, e, st, tl, m, w, rfl, hL, ok, htl, htc, hB, hE, fd, pvs, hlast, hend, q⟩ := h
  have gl := hid_len b t
  obtain ⟨pvl, pva⟩ := id pvs
  have l2 := fd.l2
  have l1 := fd.l1
  let σ6 : Int → Option V → L2.St := fun n v => [some (.ref L), some (.str (S t)), some (.ref B), some (.ref E0), some e, some (.int n), v]
  refine ⟨_, rfl, _, t.length, rfl, .inl ⟨_, SqL.of hB, by rw [List.length_map, gl]⟩, ((t.length : Nat) : Int), rfl, by omega, by omega, ?_⟩
  rw [show ((t.length : Nat) : Int).toNat = t.length from Int.toNat_natCast _]
  refine for_range (lo := 0) (n := t.length) (fun i σ H' => H' = H ∧ ∃ v : Option V, σ = σ6 ((tl.take i).flatten.length : Nat) v) ⟨rfl, none, rfl⟩ ?_ ?_
  · rintro i σ H1 hi ⟨rfl, v, rfl⟩
    have e0 : (0 : Int) + (i : Int) = (i : Int) := by omega
    have hpv : pv[i]? = some pv[i] := List.getElem?_eq_getElem (by omega)
    obtain ⟨tb, us, ev, htb, hul, hua⟩ := pva i _ hpv
    have at1 : atI pv ((0 : Int) + (i : Int)) = some (.ref tb) := by rw [e0, ← ev]; exact atI_nat hpv
    have htl3 : tl[i]? = some tl[i] := List.getElem?_eq_getElem (by omega)
    have hm := fed_many ok.ok fd (by omega) htl3
    have fl1 : (tl.take (i + 1)).flatten.length = (tl.take i).flatten.length + tl[i].length := by
      rw [List.take_add_one, htl3, List.flatten_append, List.length_append]
      show _ + (([tl[i]] : List (List Nat)).flatten).length = _
      rw [List.flatten_cons, List.flatten_nil, List.append_nil]
    have ht : t[i]? = some t[i] := List.getElem?_eq_getElem hi
    have at2 : atI (S t).cps.toList ((0 : Int) + (i : Int)) = some t[i] := by rw [e0]; exact atI_nat ht
    refine ⟨_, rfl, _, rfl, E0, pv, _, _, rfl, rfl, SqL.of hE, at1, _, _, _, _, true, rfl, .ty "tuple", .base (.tup htb), kit_ty (by decide +kernel), _, rfl, ifF ?_⟩
    refine ⟨_, rfl, _, rfl, _, rfl, E0, pv, _, _, rfl, rfl, SqL.of hE, at1, _, us.length, rfl, .inr ⟨us, SqT.of htb, rfl⟩, _, _, rfl, rfl, ?_⟩
    have en : (((tl.take i).flatten.length : Nat) : Int) + ((us.length : Nat) : Int) = (((tl.take (i + 1)).flatten.length : Nat) : Int) := by omega
    refine ⟨_, rfl, _, rfl, S t, _, t[i], rfl, rfl, by rw [S_len]; exact szB (by omega), at2, t[i], _, rfl, rfl, _, rfl, ?_⟩
    have nx : ∀ z : L2.St, z = σ6 (((tl.take (i + 1)).flatten.length : Nat) : Int) (some (.int ((0 : Int) + (i : Int)))) → H1 = H1 ∧ ∃ v : Option V, z = σ6 (((tl.take (i + 1)).flatten.length : Nat) : Int) v := fun z e => ⟨rfl, _, e⟩
    have el : (Str.ofString "abz\n ").cps.toList = [97, 98, 122, 10, 32] := by decide +kernel
    by_cases hc : t[i] ∈ ([97, 98, 122, 10, 32] : List Nat)
    · refine ify (decide_eq_true (by rw [el]; exact hc)) ?_
      have hg : (hid b t)[i]? = some (if t[i] = 97 ∧ b = true then none else some t[i]) := by
        unfold hid; rw [List.getElem?_map, ht]; rfl
      have fp := fed_plain ok.ok fd hg (plain_no ok b hc)
      refine ⟨_, rfl, _, rfl, _, _, rfl, rfl, rfl, _, rfl, ?_⟩
      have hv : V.int ((((tl.take i).flatten.length : Nat) : Int) + ((us.length : Nat) : Int)) = V.int ((0 : Int) + (i : Int) + 1) := congrArg V.int (by omega)
      refine ifn (by rw [decide_eq_true hv]; rfl) ?_
      exact nx _ (congrArg (fun z : Int => σ6 z (some (.int ((0 : Int) + (i : Int))))) en)
    · refine ifn (decide_eq_false (by rw [el]; exact hc)) ?_
      exact nx _ (congrArg (fun z : Int => σ6 z (some (.int ((0 : Int) + (i : Int))))) en)
  · rintro σ H1 ⟨rfl, v, rfl⟩
    obtain ⟨eb, eus, rfl, heb, heul, heua⟩ := id hend
    refine ⟨_, rfl, _, _, _, _, true, rfl, .ty "tuple", .base (.tup heb), kit_ty (by decide +kernel), _, rfl, ifF ?_⟩
    refine ⟨_, rfl, _, rfl, szB (show 1 ≤ 1000000 by decide), fun A1 hA1 => ?_⟩
    have s1 := same1 hA1 (.lst [.ref eb])
    have hE1 := s1 _ _ hE
    refine ⟨E0, A1, pv, [.ref eb], rfl, rfl, hE1, upd_same, szB (by show pv.length + 1 ≤ 1000000; omega), fun A2 hA2 => ?_⟩
    have s2 := same_new s1 hA2 (.lst (pv ++ [.ref eb]))
    have hA3 := upd_same (H := upd H1 A1 (.lst [.ref eb])) (a := A2) (o := .lst (pv ++ [.ref eb]))
    generalize upd (upd H1 A1 (.lst [.ref eb])) A2 (.lst (pv ++ [.ref eb])) = H2 at s2 hA3 ⊢
    have pvs2 := pvs.same fun b xs z => s2 _ _ z
    have hend2 := hend.same s2
    have n97 : NoIn (rsQ qs) 97 := mk_no ok (by decide) (by decide)
    have n32 : NoIn (rsQ qs) 32 := mk_no ok (by decide) (by decide)
    have ek := kds_alk ok.ok (hid_alk n97 n32 b t)
    have fa := fed_all ok.ok (no32 ok) fd (m := m) (w := w) (by rw [gl]; exact hlast)
    rw [gl, ← ek] at fa
    let pss : List (List (Option Nat × Nat)) := (List.range t.length).map (prsOf (hid b t) st tl) ++ [(w.map some).zip (rdM (rsQ qs) m w).2]
    have hps : pss.flatten = (hid b t).zip (kdsOf (rsQ qs) t) := by
      show ((List.range t.length).map (prsOf (hid b t) st tl) ++ [(w.map some).zip (rdM (rsQ qs) m w).2]).flatten = _
      rw [List.flatten_append, ← fa, List.flatten_cons, List.flatten_nil, List.append_nil]
    have zl : ((hid b t).zip (kdsOf (rsQ qs) t)).length ≤ 1000 := by
      rw [List.length_zip, gl]; omega
    have sm : PrSm ((hid b t).zip (kdsOf (rsQ qs) t)) := fun p hp => by
      obtain ⟨p1, p2⟩ := p
      obtain ⟨z1, z2⟩ := List.of_mem_zip hp
      refine ⟨fun c hc => ?_, kds_small qs t _ z2⟩
      have hc : p1 = some c := hc
      rw [hc] at z1
      obtain ⟨x, hx, e⟩ := List.mem_map.mp z1
      split at e
      · cases e
      · cases e; exact htc _ hx
    obtain ⟨d1, d2, d3, d4⟩ := prs_shown sm zl
    refine ⟨A2, pv ++ [.ref eb], pss, rfl, hA3, ?_, ?_, by rw [hps]; omega, fun H3 D us s3 hD pe => ?_⟩
    · show (pv ++ [V.ref eb]).length = ((List.range t.length).map (prsOf (hid b t) st tl) ++ [(w.map some).zip (rdM (rsQ qs) m w).2]).length
      rw [List.length_append, List.length_append, List.length_map, List.length_range]
      show pv.length + 1 = t.length + 1
      omega
    · intro j v ps hj hps
      have hps : ((List.range t.length).map (prsOf (hid b t) st tl) ++ [(w.map some).zip (rdM (rsQ qs) m w).2])[j]? = some ps := hps
      rcases Nat.lt_or_ge j pv.length with z | z
      · rw [List.getElem?_append_left z] at hj
        rw [List.getElem?_append_left (by rw [List.length_map, List.length_range]; omega), List.getElem?_map, List.getElem?_range (by omega)] at hps
        cases hps
        exact pvs2.2 j v hj
      · have hl := (List.getElem?_eq_some_iff.mp hj).1
        rw [List.length_append, List.length_singleton] at hl
        have ej : j = pv.length := by omega
        rw [List.getElem?_append_right z, ej, Nat.sub_self] at hj
        rw [List.getElem?_append_right (by rw [List.length_map, List.length_range]; omega), List.length_map, List.length_range, ej, show pv.length - t.length = 0 by omega] at hps
        cases hj; cases hps
        exact hend2
    rw [hps] at pe
    refine .inl ⟨D, _, rfl, .lst (SqL.of hD) (prE_dp pe), d1, d2, d3, d4, ?_⟩
    refine ⟨_, rfl, _, rfl, _, rfl, L, B, qs, t, hid b t, rfl, (hL.same s2).same s3, ok, by omega, s3 _ _ (s2 _ _ hB), gl, fun H4 D4 us4 s4 hD4 pe4 => ?_⟩
    refine .inl ⟨D4, _, rfl, .lst (SqL.of hD4) (prE_dp pe4), d1, d2, d3, d4, ?_⟩
    refine ⟨rfl, ?_⟩
    rw [decide_eq_true rfl]
    exact q H4 fun b o z => s4 _ _ (s3 _ _ (s2 _ _ z))

end
end Vf

set_option maxRecDepth 100000
set_option maxHeartbeats 4000000
namespace Vf
open PySem PySem.Spec PyProof.Rows L2 SX
theorem all_ok {P : Program} {w : World} {K : PySem.W.Frag} {mg : Str → Option Value} {CT CW CR CD CG CM cc P0 fE fR fD fG fM f_Reader_is_beginning f_Reader_passed f_Reader_read f_ReadingMachine_moved f_ReadingMachine_ended : Addr} (T : Tx K w mg)
    (d_isMark : Dn K mg "is_mark" s_isMark ["word"])
    (d_optionCanStand : Dn K mg "option_can_stand" s_optionCanStand ["ahead", "word"])
    (d_canStand : Dn K mg "can_stand" s_canStand ["ahead", "word", "openers"])
    (d_wrongColumn : Dn K mg "wrong_column" s_wrongColumn ["line", "openers"])
    (d_readRules : Dn K mg "read_rules" s_readRules ["text"])
    (d_ruleWeight : Dn K mg "rule_weight" s_ruleWeight ["rule"])
    (d_pieceMarks : Dn K mg "piece_marks" s_pieceMarks ["rule", "number", "depth"])
    (d_pen : Dn K mg "_law_pen" s_pen ["_law_script"])
    (d_draw : Dn K mg "_law_draw" s_draw ["_law_pen_here", "_law_many"])
    (d_pick : Dn K mg "_law_pick" s_pick ["_law_pen_here", "_law_some_here"])
    (d_lawWord : Dn K mg "_law_word" s_lawWord ["_law_pen_here", "_law_signs", "_law_most"])
    (d_markSigns : Dn K mg "_law_mark_signs" s_markSigns [])
    (d_some : Dn K mg "_law_some" s_some ["_law_pen_here", "_law_items", "_law_many"])
    (d_ruleLine : Dn K mg "_law_rule_line" s_ruleLine ["_law_rule"])
    (d_newRule : Dn K mg "_law_new_rule" s_newRule ["_law_pen_here", "_law_mark", "_law_signs", "_law_most"])
    (d_newRules : Dn K mg "_law_new_rules" s_newRules ["_law_pen_here", "_law_many", "_law_most"])
    (d_tongueText : Dn K mg "_law_tongue_text" s_tongueText ["_law_rules"])
    (d_ruleWords : Dn K mg "_law_rule_words" s_ruleWords ["_law_rules"])
    (d_tongueSigns : Dn K mg "_law_tongue_signs" s_tongueSigns ["_law_rules"])
    (d_markedText : Dn K mg "_law_marked_text" s_markedText ["_law_pen_here", "_law_rules", "_law_most"])
    (d_opened : Dn K mg "_law_opened" s_opened ["_law_rules", "_law_text", "_law_at"])
    (d_lawPassed : Dn K mg "_law_passed" s_lawPassed ["_law_rule", "_law_text", "_law_at", "_law_depth"])
    (d_lawPieces : Dn K mg "_law_pieces" s_lawPieces ["_law_rules", "_law_text"])
    (d_lawKinds : Dn K mg "_law_kinds" s_lawKinds ["_law_rules", "_law_text"])
    (d_weight : Dn K mg "_law_weight" s_weight ["_law_rules"])
    (d_fedText : Dn K mg "_law_fed_text" s_fedText ["_law_machine", "_law_signs"])
    (d_pairsDue : Dn K mg "_law_pairs_due" s_pairsDue ["_law_rules", "_law_text", "_law_signs"])
    (d_allPairs : Dn K mg "_law_all_pairs" s_allPairs ["_law_told"])
    (d_walkRight : Dn K mg "_law_walk_right" s_walkRight ["_law_rules", "_law_text", "_law_signs", "_law_told", "_law_ended"])
    (d_alikeBehind : Dn K mg "_law_alike_behind" s_alikeBehind ["_law_rules", "_law_one", "_law_two", "_law_more", "_law_left"])
    (oR : Oc K mg "Rule" CR fR) (oD : Oc K mg "Reader" CD fD) (oG : Oc K mg "Tongue" CG fG) (oM : Oc K mg "ReadingMachine" CM fM) (A0 : Ca K CR CD CG) (AM : Cm K CM) (eE : OwnC K CG fE)
    (m_Reader_is_beginning : Meth K CD "is_beginning" f_Reader_is_beginning)
    (m_Reader_passed : Meth K CD "passed" f_Reader_passed)
    (m_Reader_read : Meth K CD "read" f_Reader_read)
    (m_ReadingMachine_moved : Meth K CM "moved" f_ReadingMachine_moved)
    (m_ReadingMachine_ended : Meth K CM "ended" f_ReadingMachine_ended)
    (n_Rule_init : ∃ (q : Str) (fd : FuncData), C8.Fun K "__init__" q s_Rule_init fR fd ∧ Binds K fd ["self", "words"] [])
    (n_Reader_init : ∃ (q : Str) (fd : FuncData), C8.Fun K "__init__" q s_Reader_init fD fd ∧ Binds K fd ["self", "rules"] [])
    (n_Tongue_init : ∃ (q : Str) (fd : FuncData), C8.Fun K "__init__" q s_Tongue_init fG fd ∧ Binds K fd ["self", "text"] [])
    (n_ReadingMachine_init : ∃ (q : Str) (fd : FuncData), C8.Fun K "__init__" q s_ReadingMachine_init fM fd ∧ Binds K fd ["self", "tongue"] [])
    (n_Tongue_eq : ∃ (q : Str) (fd : FuncData), C8.Fun K "__eq__" q s_Tongue_eq fE fd ∧ Binds K fd ["self", "other"] [])
    (n_Reader_is_beginning : ∃ (q : Str) (fd : FuncData), C8.Fun K "is_beginning" q s_Reader_is_beginning f_Reader_is_beginning fd ∧ Binds K fd ["self", "mode", "text", "place"] [])
    (n_Reader_passed : ∃ (q : Str) (fd : FuncData), C8.Fun K "passed" q s_Reader_passed f_Reader_passed fd ∧ Binds K fd ["self", "mode", "text", "place", "ended"] [])
    (n_Reader_read : ∃ (q : Str) (fd : FuncData), C8.Fun K "read" q s_Reader_read f_Reader_read fd ∧ Binds K fd ["self", "mode", "text", "ended"] [])
    (n_ReadingMachine_moved : ∃ (q : Str) (fd : FuncData), C8.Fun K "moved" q s_ReadingMachine_moved f_ReadingMachine_moved fd ∧ Binds K fd ["self", "stand", "sign"] [])
    (n_ReadingMachine_ended : ∃ (q : Str) (fd : FuncData), C8.Fun K "ended" q s_ReadingMachine_ended f_ReadingMachine_ended fd ∧ Binds K fd ["self", "stand"] [])
    (kT : Kc K mg "BadText" CT CW ["line", "column"] i_BadText) (gW : mg "WorkshopError" = some (.ref CW)) (x : Xk K CT CW)
    (nA : ∃ (f : Addr) (fd : FuncData), FunC K mg "longest_first" s_longestFirst f fd cc ∧ Binds K fd ["marks"] []) (base : Heap) (TB : LamX.TabB base mg cc P0) {f : Addr} {fd : FuncData} (F : C8.Def K mg "law" s_law f fd) : RunAt P w K mg base callerA f fd ["_law_script"] (sp_law K P0) := by
  have ES : Es P w K mg base CT CW := { r_BadText := rk_mk kT ini_BadText, g_WorkshopError := gW, ex := x.ex, ec := kT.c.ec.e, tw := x.tw, tv := x.tv }
  obtain ⟨q_Rule_init, fd_Rule_init, F_Rule_init, b_Rule_init⟩ := n_Rule_init
  obtain ⟨q_Reader_init, fd_Reader_init, F_Reader_init, b_Reader_init⟩ := n_Reader_init
  obtain ⟨q_Tongue_init, fd_Tongue_init, F_Tongue_init, b_Tongue_init⟩ := n_Tongue_init
  obtain ⟨q_ReadingMachine_init, fd_ReadingMachine_init, F_ReadingMachine_init, b_ReadingMachine_init⟩ := n_ReadingMachine_init
  obtain ⟨q_Tongue_eq, fd_Tongue_eq, F_Tongue_eq, b_Tongue_eq⟩ := n_Tongue_eq
  obtain ⟨q_Reader_is_beginning, fd_Reader_is_beginning, F_Reader_is_beginning, b_Reader_is_beginning⟩ := n_Reader_is_beginning
  obtain ⟨q_Reader_passed, fd_Reader_passed, F_Reader_passed, b_Reader_passed⟩ := n_Reader_passed
  obtain ⟨q_Reader_read, fd_Reader_read, F_Reader_read, b_Reader_read⟩ := n_Reader_read
  obtain ⟨q_ReadingMachine_moved, fd_ReadingMachine_moved, F_ReadingMachine_moved, b_ReadingMachine_moved⟩ := n_ReadingMachine_moved
  obtain ⟨q_ReadingMachine_ended, fd_ReadingMachine_ended, F_ReadingMachine_ended, b_ReadingMachine_ended⟩ := n_ReadingMachine_ended
  obtain ⟨f_isMark, fd_isMark, F_isMark, b_isMark⟩ := d_isMark
  have C_isMark := ok_isMark (P := P) (w := w) (base := base) F_isMark b_isMark T
  obtain ⟨f_optionCanStand, fd_optionCanStand, F_optionCanStand, b_optionCanStand⟩ := d_optionCanStand
  have C_optionCanStand := ok_optionCanStand (P := P) (w := w) (base := base) F_optionCanStand b_optionCanStand T
  obtain ⟨f_canStand, fd_canStand, F_canStand, b_canStand⟩ := d_canStand
  have C_canStand := ok_canStand (P := P) (w := w) (base := base) F_canStand b_canStand T C_isMark C_optionCanStand
  obtain ⟨f_wrongColumn, fd_wrongColumn, F_wrongColumn, b_wrongColumn⟩ := d_wrongColumn
  have C_wrongColumn := ok_wrongColumn (P := P) (w := w) (base := base) F_wrongColumn b_wrongColumn T C_canStand
  have M_Rule := ok2_Rule_init (P := P) (w := w) (base := base) oR.mI oR.g F_Rule_init b_Rule_init T A0
  obtain ⟨f_readRules, fd_readRules, F_readRules, b_readRules⟩ := d_readRules
  have C_readRules := ok2_readRules (P := P) (w := w) (base := base) F_readRules b_readRules T ES M_Rule A0 C_wrongColumn
  obtain ⟨f_ruleWeight, fd_ruleWeight, F_ruleWeight, b_ruleWeight⟩ := d_ruleWeight
  have C_ruleWeight := ok_ruleWeight (P := P) (w := w) (base := base) F_ruleWeight b_ruleWeight T A0
  obtain ⟨f_pieceMarks, fd_pieceMarks, F_pieceMarks, b_pieceMarks⟩ := d_pieceMarks
  have C_pieceMarks := ok2_pieceMarks (P := P) (w := w) (base := base) F_pieceMarks b_pieceMarks T A0
  obtain ⟨f_l, fd_l, F_l, b_l⟩ := nA
  have C_longestFirst := ok2_longestFirst (P := P) (w := w) (base := base) F_l b_l T TB
  have M_Reader := ok2_Reader_init (P := P) (w := w) (base := base) oD.mI oD.g F_Reader_init b_Reader_init T A0 C_longestFirst C_pieceMarks
  have CX_Tongue := ok3_Tongue_init (P := P) (w := w) (base := base) oG.mI oG.g F_Tongue_init b_Tongue_init T M_Reader A0 C_readRules C_ruleWeight
  have EQ := ok_Tongue_eq (P := P) (w := w) (base := base) eE oG.g F_Tongue_eq b_Tongue_eq T A0
  have C_Reader_is_beginning := ok_isBeg (P := P) (w := w) (base := base) m_Reader_is_beginning F_Reader_is_beginning b_Reader_is_beginning T A0
  have C_Reader_passed := ok_passed (P := P) (w := w) (base := base) m_Reader_passed F_Reader_passed b_Reader_passed T A0 C_Reader_is_beginning
  have C_Reader_read := ok_read (P := P) (w := w) (base := base) m_Reader_read F_Reader_read b_Reader_read T A0 C_Reader_passed
  have M_ReadingMachine := ok_ReadingMachine_init (P := P) (w := w) (base := base) oM.mI oM.g F_ReadingMachine_init b_ReadingMachine_init T A0 AM
  have C_ReadingMachine_moved := ok_ReadingMachine_moved (P := P) (w := w) (base := base) m_ReadingMachine_moved F_ReadingMachine_moved b_ReadingMachine_moved T A0 AM C_Reader_read
  have C_ReadingMachine_ended := ok_ReadingMachine_ended (P := P) (w := w) (base := base) m_ReadingMachine_ended F_ReadingMachine_ended b_ReadingMachine_ended T A0 AM C_Reader_read
  obtain ⟨f_pen, fd_pen, F_pen, b_pen⟩ := d_pen
  have C_pen := ok_pen (P := P) (w := w) (base := base) F_pen b_pen T
  obtain ⟨f_draw, fd_draw, F_draw, b_draw⟩ := d_draw
  have C_draw := ok_draw (P := P) (w := w) (base := base) F_draw b_draw T
  obtain ⟨f_pick, fd_pick, F_pick, b_pick⟩ := d_pick
  have C_pick := ok_pick (P := P) (w := w) (base := base) F_pick b_pick T C_draw
  obtain ⟨f_lawWord, fd_lawWord, F_lawWord, b_lawWord⟩ := d_lawWord
  have C_lawWord := ok_lawWord (P := P) (w := w) (base := base) F_lawWord b_lawWord T C_draw C_pick
  obtain ⟨f_markSigns, fd_markSigns, F_markSigns, b_markSigns⟩ := d_markSigns
  have C_markSigns := ok_markSigns (P := P) (w := w) (base := base) F_markSigns b_markSigns T
  obtain ⟨f_some, fd_some, F_some, b_some⟩ := d_some
  have C_some := ok_some (P := P) (w := w) (base := base) F_some b_some T C_draw
  obtain ⟨f_ruleLine, fd_ruleLine, F_ruleLine, b_ruleLine⟩ := d_ruleLine
  have C_ruleLine := ok2_ruleLine (P := P) (w := w) (base := base) F_ruleLine b_ruleLine T
  obtain ⟨f_newRule, fd_newRule, F_newRule, b_newRule⟩ := d_newRule
  have C_newRule := ok_newRule (P := P) (w := w) (base := base) F_newRule b_newRule T C_pick C_lawWord C_draw
  obtain ⟨f_newRules, fd_newRules, F_newRules, b_newRules⟩ := d_newRules
  have C_newRules := ok_newRules (P := P) (w := w) (base := base) F_newRules b_newRules T C_some C_draw C_markSigns C_lawWord C_newRule
  obtain ⟨f_tongueText, fd_tongueText, F_tongueText, b_tongueText⟩ := d_tongueText
  have C_tongueText := ok_tongueText (P := P) (w := w) (base := base) F_tongueText b_tongueText T C_ruleLine
  obtain ⟨f_ruleWords, fd_ruleWords, F_ruleWords, b_ruleWords⟩ := d_ruleWords
  have C_ruleWords := ok_ruleWords (P := P) (w := w) (base := base) F_ruleWords b_ruleWords T
  obtain ⟨f_tongueSigns, fd_tongueSigns, F_tongueSigns, b_tongueSigns⟩ := d_tongueSigns
  have C_tongueSigns := ok_tongueSigns (P := P) (w := w) (base := base) F_tongueSigns b_tongueSigns T C_ruleWords
  obtain ⟨f_markedText, fd_markedText, F_markedText, b_markedText⟩ := d_markedText
  have C_markedText := ok_markedText (P := P) (w := w) (base := base) F_markedText b_markedText T C_ruleWords C_draw C_tongueSigns C_pick
  obtain ⟨f_opened, fd_opened, F_opened, b_opened⟩ := d_opened
  have C_opened := ok_opened (P := P) (w := w) (base := base) F_opened b_opened T
  obtain ⟨f_lawPassed, fd_lawPassed, F_lawPassed, b_lawPassed⟩ := d_lawPassed
  have C_lawPassed := ok_lawPassed (P := P) (w := w) (base := base) F_lawPassed b_lawPassed T
  obtain ⟨f_lawPieces, fd_lawPieces, F_lawPieces, b_lawPieces⟩ := d_lawPieces
  have C_lawPieces := ok_lawPieces (P := P) (w := w) (base := base) F_lawPieces b_lawPieces T C_opened C_lawPassed
  obtain ⟨f_lawKinds, fd_lawKinds, F_lawKinds, b_lawKinds⟩ := d_lawKinds
  have C_lawKinds := ok_lawKinds (P := P) (w := w) (base := base) F_lawKinds b_lawKinds T C_lawPieces
  obtain ⟨f_weight, fd_weight, F_weight, b_weight⟩ := d_weight
  have C_weight := ok_weight (P := P) (w := w) (base := base) F_weight b_weight T
  obtain ⟨f_fedText, fd_fedText, F_fedText, b_fedText⟩ := d_fedText
  have C_fedText := ok_fedText (P := P) (w := w) (base := base) F_fedText b_fedText T A0 AM C_ReadingMachine_moved
  obtain ⟨f_pairsDue, fd_pairsDue, F_pairsDue, b_pairsDue⟩ := d_pairsDue
  have C_pairsDue := ok_pairsDue (P := P) (w := w) (base := base) F_pairsDue b_pairsDue T C_lawKinds
  obtain ⟨f_allPairs, fd_allPairs, F_allPairs, b_allPairs⟩ := d_allPairs
  have C_allPairs := ok_allPairs (P := P) (w := w) (base := base) F_allPairs b_allPairs T
  obtain ⟨f_walkRight, fd_walkRight, F_walkRight, b_walkRight⟩ := d_walkRight
  have CG_walkRight := ok_walkRight (P := P) (w := w) (base := base) F_walkRight b_walkRight T C_allPairs C_pairsDue
  obtain ⟨f_alikeBehind, fd_alikeBehind, F_alikeBehind, b_alikeBehind⟩ := d_alikeBehind
  have C_alikeBehind := ok_alikeBehind (P := P) (w := w) (base := base) F_alikeBehind b_alikeBehind T C_lawKinds
  exact ok_law F T CX_Tongue CG_walkRight EQ A0 AM M_ReadingMachine C_pen C_newRules C_draw C_tongueText C_weight C_markedText C_fedText C_ReadingMachine_ended C_alikeBehind C_ReadingMachine_moved
end Vf

open PySem PySem.W PyProof.Rows
set_option maxRecDepth 100000 in
set_option maxHeartbeats 0 in
theorem PySem.Challenge.cw_textworkshop_k13_whole_sign_by_sign_holds : PySem.Challenge.rw_textworkshop_k13_whole_sign_by_sign.Holds := by
  w_on; o_law; k_head; (case hw => w_witness2)
  k_fill
  refine Vf.walk_tabG (l := PySem.Challenge.rw_textworkshop_k13_whole_sign_by_sign) (n := 63) (x := "_law_script") rfl (by decide) rfl (fun w h Y => PySem.W.km_in_of Y) ?F
  case F =>
    intro w mg fa h TT KX G hmg
    obtain ⟨loose2, mean, mb, TT⟩ := TT
    refine' Vf.useIt (Vf.wc_mk (n := "WorkshopError") KX G ?a ?c ?k) (fun eW => ?_)
    (case a => k_is); (case c => k_is); (case k => k_is)
    refine' Vf.useIt (Vf.mt_mk KX ?n ?t) (fun eM => ?_)
    (case n => k_is); (case t => k_is)
    refine' Vf.useIt (Vf.cl_mk (n := "BadText") KX G eW eM ?a ?l ?s ?b ?y ?k ?g ?h ?d ?e ?m) (fun c_BadText => ?_)
    (case a => k_is); (case l => k_is); (case s => k_is); (case b => k_is); (case y => k_is); (case k => k_is); (case g => k_is); (case h => k_is); (case d => k_is); (case e => k_is); (case m => k_is)
    refine' Vf.useIt (Vf.kc_mk2 (st := Vf.i_BadText) c_BadText (f0 := "line") (f1 := "column") ?n0 ?n1 ?i ?t ?l ?c (fun _ _ _ _ _ _ us hl => match us, hl with | [_, _, _], _ => rfl)) (fun k_BadText => ?_)
    (case n0 => k_is); (case n1 => k_is); (case i => k_is); (case t => k_is); (case l => k_is); (case c => k_is)
    refine' Vf.useIt (Vf.xk_mk c_BadText ?ex ?tw ?tv) (fun XK => ?_)
    (case ex => kernel_rfl); (case tw => kernel_rfl); (case tv => kernel_rfl)
    refine' Vf.useIt (Vf.oc_mk (n := "Rule") KX G eM ?a ?pg ?hd ?po ?sa ?e ?m ?mk ?i ?fi ?kp) (fun oR => ?_)
    (case a => k_is); (case pg => k_is); (case hd => k_is); (case po => k_is); (case sa => k_is); (case e => k_is); (case m => k_is); (case mk => k_is); (case i => k_is); (case fi => k_is); (case kp => k_is)
    refine' Vf.useIt (Vf.oc_mk (n := "Reader") KX G eM ?a ?pg ?hd ?po ?sa ?e ?m ?mk ?i ?fi ?kp) (fun oD => ?_)
    (case a => k_is); (case pg => k_is); (case hd => k_is); (case po => k_is); (case sa => k_is); (case e => k_is); (case m => k_is); (case mk => k_is); (case i => k_is); (case fi => k_is); (case kp => k_is)
    refine' Vf.useIt (Vf.oc_mk (n := "Tongue") KX G eM ?a ?pg ?hd ?po ?sa ?e ?m ?mk ?i ?fi ?kp) (fun oG => ?_)
    (case a => k_is); (case pg => k_is); (case hd => k_is); (case po => k_is); (case sa => k_is); (case e => k_is); (case m => k_is); (case mk => k_is); (case i => k_is); (case fi => k_is); (case kp => k_is)
    refine' Vf.useIt (Vf.oc_mk (n := "ReadingMachine") KX G eM ?a ?pg ?hd ?po ?sa ?e ?m ?mk ?i ?fi ?kp) (fun oM => ?_)
    (case a => k_is); (case pg => k_is); (case hd => k_is); (case po => k_is); (case sa => k_is); (case e => k_is); (case m => k_is); (case mk => k_is); (case i => k_is); (case fi => k_is); (case kp => k_is)
    refine' Vf.useIt (Vf.ca_mk oR oD oG ?r1 ?r2 ?r3 ?r4 ?r5 ?r6 ?r7 ?d1 ?d2 ?g1 ?g2 ?g3 ?g4) (fun A0 => ?_)
    (case r1 => k_is); (case r2 => k_is); (case r3 => k_is); (case r4 => k_is); (case r5 => k_is); (case r6 => k_is); (case r7 => k_is); (case d1 => k_is); (case d2 => k_is); (case g1 => k_is); (case g2 => k_is); (case g3 => k_is); (case g4 => k_is)
    refine' Vf.useIt (Vf.cm_mk oM ?q1 ?q2) (fun AM => ?_)
    (case q1 => k_is); (case q2 => k_is)
    refine' Vf.useIt (Vf.eqc_mk oG ?l ?no ?e1 ?e2 ?e3 ?fe) (fun eE => ?_)
    (case l => k_is); (case no => first | k_is | kernel_rfl | rfl); (case e1 => k_is); (case e2 => k_is); (case e3 => k_is); (case fe => k_is)
    refine' Vf.useIt (Vf.mth_mk (m := "is_beginning") oD ?a ?b ?c) (fun m_Reader_is_beginning => ?_)
    (case a => k_is); (case b => k_is); (case c => k_is)
    refine' Vf.useIt (Vf.mth_mk (m := "passed") oD ?a ?b ?c) (fun m_Reader_passed => ?_)
    (case a => k_is); (case b => k_is); (case c => k_is)
    refine' Vf.useIt (Vf.mth_mk (m := "read") oD ?a ?b ?c) (fun m_Reader_read => ?_)
    (case a => k_is); (case b => k_is); (case c => k_is)
    refine' Vf.useIt (Vf.mth_mk (m := "moved") oM ?a ?b ?c) (fun m_ReadingMachine_moved => ?_)
    (case a => k_is); (case b => k_is); (case c => k_is)
    refine' Vf.useIt (Vf.mth_mk (m := "ended") oM ?a ?b ?c) (fun m_ReadingMachine_ended => ?_)
    (case a => k_is); (case b => k_is); (case c => k_is)
    refine' Vf.useIt (Vf.fnm_mk (m := "__init__") (st := Vf.s_Rule_init) (ps := ["self", "words"]) oR.mI.init ?l ?c (fun _ _ _ _ _ _ us hl => match us, hl with | [_, _], _ => rfl)) (fun n_Rule_init => ?_)
    (case l => k_is); (case c => k_is)
    refine' Vf.useIt (Vf.fnm_mk (m := "__init__") (st := Vf.s_Reader_init) (ps := ["self", "rules"]) oD.mI.init ?l ?c (fun _ _ _ _ _ _ us hl => match us, hl with | [_, _], _ => rfl)) (fun n_Reader_init => ?_)
    (case l => k_is); (case c => k_is)
    refine' Vf.useIt (Vf.fnm_mk (m := "__init__") (st := Vf.s_Tongue_init) (ps := ["self", "text"]) oG.mI.init ?l ?c (fun _ _ _ _ _ _ us hl => match us, hl with | [_, _], _ => rfl)) (fun n_Tongue_init => ?_)
    (case l => k_is); (case c => k_is)
    refine' Vf.useIt (Vf.fnm_mk (m := "__init__") (st := Vf.s_ReadingMachine_init) (ps := ["self", "tongue"]) oM.mI.init ?l ?c (fun _ _ _ _ _ _ us hl => match us, hl with | [_, _], _ => rfl)) (fun n_ReadingMachine_init => ?_)
    (case l => k_is); (case c => k_is)
    refine' Vf.useIt (Vf.fnm_mk (m := "__eq__") (st := Vf.s_Tongue_eq) (ps := ["self", "other"]) eE.hs ?l ?c (fun _ _ _ _ _ _ us hl => match us, hl with | [_, _], _ => rfl)) (fun n_Tongue_eq => ?_)
    (case l => k_is); (case c => k_is)
    refine' Vf.useIt (Vf.fnm_mk (m := "is_beginning") (st := Vf.s_Reader_is_beginning) (ps := ["self", "mode", "text", "place"]) m_Reader_is_beginning.at_ ?l ?c (fun _ _ _ _ _ _ us hl => match us, hl with | [_, _, _, _], _ => rfl)) (fun n_Reader_is_beginning => ?_)
    (case l => k_is); (case c => k_is)
    refine' Vf.useIt (Vf.fnm_mk (m := "passed") (st := Vf.s_Reader_passed) (ps := ["self", "mode", "text", "place", "ended"]) m_Reader_passed.at_ ?l ?c (fun _ _ _ _ _ _ us hl => match us, hl with | [_, _, _, _, _], _ => rfl)) (fun n_Reader_passed => ?_)
    (case l => k_is); (case c => k_is)
    refine' Vf.useIt (Vf.fnm_mk (m := "read") (st := Vf.s_Reader_read) (ps := ["self", "mode", "text", "ended"]) m_Reader_read.at_ ?l ?c (fun _ _ _ _ _ _ us hl => match us, hl with | [_, _, _, _], _ => rfl)) (fun n_Reader_read => ?_)
    (case l => k_is); (case c => k_is)
    refine' Vf.useIt (Vf.fnm_mk (m := "moved") (st := Vf.s_ReadingMachine_moved) (ps := ["self", "stand", "sign"]) m_ReadingMachine_moved.at_ ?l ?c (fun _ _ _ _ _ _ us hl => match us, hl with | [_, _, _], _ => rfl)) (fun n_ReadingMachine_moved => ?_)
    (case l => k_is); (case c => k_is)
    refine' Vf.useIt (Vf.fnm_mk (m := "ended") (st := Vf.s_ReadingMachine_ended) (ps := ["self", "stand"]) m_ReadingMachine_ended.at_ ?l ?c (fun _ _ _ _ _ _ us hl => match us, hl with | [_, _], _ => rfl)) (fun n_ReadingMachine_ended => ?_)
    (case l => k_is); (case c => k_is)
    refine' Vf.useIt (Vf.dn_mk (x := "is_mark") (st := Vf.s_isMark) (ps := ["word"]) KX G ?a ?l ?c ?k (fun _ _ _ _ _ _ us hl => match us, hl with | [_], _ => rfl)) (fun d_isMark => ?_)
    (case a => k_is); (case l => k_is); (case c => k_is); (case k => k_is)
    refine' Vf.useIt (Vf.dn_mk (x := "option_can_stand") (st := Vf.s_optionCanStand) (ps := ["ahead", "word"]) KX G ?a ?l ?c ?k (fun _ _ _ _ _ _ us hl => match us, hl with | [_, _], _ => rfl)) (fun d_optionCanStand => ?_)
    (case a => k_is); (case l => k_is); (case c => k_is); (case k => k_is)
    refine' Vf.useIt (Vf.dn_mk (x := "can_stand") (st := Vf.s_canStand) (ps := ["ahead", "word", "openers"]) KX G ?a ?l ?c ?k (fun _ _ _ _ _ _ us hl => match us, hl with | [_, _, _], _ => rfl)) (fun d_canStand => ?_)
    (case a => k_is); (case l => k_is); (case c => k_is); (case k => k_is)
    refine' Vf.useIt (Vf.dn_mk (x := "wrong_column") (st := Vf.s_wrongColumn) (ps := ["line", "openers"]) KX G ?a ?l ?c ?k (fun _ _ _ _ _ _ us hl => match us, hl with | [_, _], _ => rfl)) (fun d_wrongColumn => ?_)
    (case a => k_is); (case l => k_is); (case c => k_is); (case k => k_is)
    refine' Vf.useIt (Vf.dn_mk (x := "read_rules") (st := Vf.s_readRules) (ps := ["text"]) KX G ?a ?l ?c ?k (fun _ _ _ _ _ _ us hl => match us, hl with | [_], _ => rfl)) (fun d_readRules => ?_)
    (case a => k_is); (case l => k_is); (case c => k_is); (case k => k_is)
    refine' Vf.useIt (Vf.dn_mk (x := "rule_weight") (st := Vf.s_ruleWeight) (ps := ["rule"]) KX G ?a ?l ?c ?k (fun _ _ _ _ _ _ us hl => match us, hl with | [_], _ => rfl)) (fun d_ruleWeight => ?_)
    (case a => k_is); (case l => k_is); (case c => k_is); (case k => k_is)
    refine' Vf.useIt (Vf.dn_mk (x := "piece_marks") (st := Vf.s_pieceMarks) (ps := ["rule", "number", "depth"]) KX G ?a ?l ?c ?k (fun _ _ _ _ _ _ us hl => match us, hl with | [_, _, _], _ => rfl)) (fun d_pieceMarks => ?_)
    (case a => k_is); (case l => k_is); (case c => k_is); (case k => k_is)
    refine' Vf.useIt (Vf.dn_mk (x := "_law_pen") (st := Vf.s_pen) (ps := ["_law_script"]) KX G ?a ?l ?c ?k (fun _ _ _ _ _ _ us hl => match us, hl with | [_], _ => rfl)) (fun d_pen => ?_)
    (case a => k_is); (case l => k_is); (case c => k_is); (case k => k_is)
    refine' Vf.useIt (Vf.dn_mk (x := "_law_draw") (st := Vf.s_draw) (ps := ["_law_pen_here", "_law_many"]) KX G ?a ?l ?c ?k (fun _ _ _ _ _ _ us hl => match us, hl with | [_, _], _ => rfl)) (fun d_draw => ?_)
    (case a => k_is); (case l => k_is); (case c => k_is); (case k => k_is)
    refine' Vf.useIt (Vf.dn_mk (x := "_law_pick") (st := Vf.s_pick) (ps := ["_law_pen_here", "_law_some_here"]) KX G ?a ?l ?c ?k (fun _ _ _ _ _ _ us hl => match us, hl with | [_, _], _ => rfl)) (fun d_pick => ?_)
    (case a => k_is); (case l => k_is); (case c => k_is); (case k => k_is)
    refine' Vf.useIt (Vf.dn_mk (x := "_law_word") (st := Vf.s_lawWord) (ps := ["_law_pen_here", "_law_signs", "_law_most"]) KX G ?a ?l ?c ?k (fun _ _ _ _ _ _ us hl => match us, hl with | [_, _, _], _ => rfl)) (fun d_lawWord => ?_)
    (case a => k_is); (case l => k_is); (case c => k_is); (case k => k_is)
    refine' Vf.useIt (Vf.dn_mk (x := "_law_mark_signs") (st := Vf.s_markSigns) (ps := []) KX G ?a ?l ?c ?k (fun _ _ _ _ _ _ us hl => match us, hl with | [], _ => rfl)) (fun d_markSigns => ?_)
    (case a => k_is); (case l => k_is); (case c => k_is); (case k => k_is)
    refine' Vf.useIt (Vf.dn_mk (x := "_law_some") (st := Vf.s_some) (ps := ["_law_pen_here", "_law_items", "_law_many"]) KX G ?a ?l ?c ?k (fun _ _ _ _ _ _ us hl => match us, hl with | [_, _, _], _ => rfl)) (fun d_some => ?_)
    (case a => k_is); (case l => k_is); (case c => k_is); (case k => k_is)
    refine' Vf.useIt (Vf.dn_mk (x := "_law_rule_line") (st := Vf.s_ruleLine) (ps := ["_law_rule"]) KX G ?a ?l ?c ?k (fun _ _ _ _ _ _ us hl => match us, hl with | [_], _ => rfl)) (fun d_ruleLine => ?_)
    (case a => k_is); (case l => k_is); (case c => k_is); (case k => k_is)
    refine' Vf.useIt (Vf.dn_mk (x := "_law_new_rule") (st := Vf.s_newRule) (ps := ["_law_pen_here", "_law_mark", "_law_signs", "_law_most"]) KX G ?a ?l ?c ?k (fun _ _ _ _ _ _ us hl => match us, hl with | [_, _, _, _], _ => rfl)) (fun d_newRule => ?_)
    (case a => k_is); (case l => k_is); (case c => k_is); (case k => k_is)
    refine' Vf.useIt (Vf.dn_mk (x := "_law_new_rules") (st := Vf.s_newRules) (ps := ["_law_pen_here", "_law_many", "_law_most"]) KX G ?a ?l ?c ?k (fun _ _ _ _ _ _ us hl => match us, hl with | [_, _, _], _ => rfl)) (fun d_newRules => ?_)
    (case a => k_is); (case l => k_is); (case c => k_is); (case k => k_is)
    refine' Vf.useIt (Vf.dn_mk (x := "_law_tongue_text") (st := Vf.s_tongueText) (ps := ["_law_rules"]) KX G ?a ?l ?c ?k (fun _ _ _ _ _ _ us hl => match us, hl with | [_], _ => rfl)) (fun d_tongueText => ?_)
    (case a => k_is); (case l => k_is); (case c => k_is); (case k => k_is)
    refine' Vf.useIt (Vf.dn_mk (x := "_law_rule_words") (st := Vf.s_ruleWords) (ps := ["_law_rules"]) KX G ?a ?l ?c ?k (fun _ _ _ _ _ _ us hl => match us, hl with | [_], _ => rfl)) (fun d_ruleWords => ?_)
    (case a => k_is); (case l => k_is); (case c => k_is); (case k => k_is)
    refine' Vf.useIt (Vf.dn_mk (x := "_law_tongue_signs") (st := Vf.s_tongueSigns) (ps := ["_law_rules"]) KX G ?a ?l ?c ?k (fun _ _ _ _ _ _ us hl => match us, hl with | [_], _ => rfl)) (fun d_tongueSigns => ?_)
    (case a => k_is); (case l => k_is); (case c => k_is); (case k => k_is)
    refine' Vf.useIt (Vf.dn_mk (x := "_law_marked_text") (st := Vf.s_markedText) (ps := ["_law_pen_here", "_law_rules", "_law_most"]) KX G ?a ?l ?c ?k (fun _ _ _ _ _ _ us hl => match us, hl with | [_, _, _], _ => rfl)) (fun d_markedText => ?_)
    (case a => k_is); (case l => k_is); (case c => k_is); (case k => k_is)
    refine' Vf.useIt (Vf.dn_mk (x := "_law_opened") (st := Vf.s_opened) (ps := ["_law_rules", "_law_text", "_law_at"]) KX G ?a ?l ?c ?k (fun _ _ _ _ _ _ us hl => match us, hl with | [_, _, _], _ => rfl)) (fun d_opened => ?_)
    (case a => k_is); (case l => k_is); (case c => k_is); (case k => k_is)
    refine' Vf.useIt (Vf.dn_mk (x := "_law_passed") (st := Vf.s_lawPassed) (ps := ["_law_rule", "_law_text", "_law_at", "_law_depth"]) KX G ?a ?l ?c ?k (fun _ _ _ _ _ _ us hl => match us, hl with | [_, _, _, _], _ => rfl)) (fun d_lawPassed => ?_)
    (case a => k_is); (case l => k_is); (case c => k_is); (case k => k_is)
    refine' Vf.useIt (Vf.dn_mk (x := "_law_pieces") (st := Vf.s_lawPieces) (ps := ["_law_rules", "_law_text"]) KX G ?a ?l ?c ?k (fun _ _ _ _ _ _ us hl => match us, hl with | [_, _], _ => rfl)) (fun d_lawPieces => ?_)
    (case a => k_is); (case l => k_is); (case c => k_is); (case k => k_is)
    refine' Vf.useIt (Vf.dn_mk (x := "_law_kinds") (st := Vf.s_lawKinds) (ps := ["_law_rules", "_law_text"]) KX G ?a ?l ?c ?k (fun _ _ _ _ _ _ us hl => match us, hl with | [_, _], _ => rfl)) (fun d_lawKinds => ?_)
    (case a => k_is); (case l => k_is); (case c => k_is); (case k => k_is)
    refine' Vf.useIt (Vf.dn_mk (x := "_law_weight") (st := Vf.s_weight) (ps := ["_law_rules"]) KX G ?a ?l ?c ?k (fun _ _ _ _ _ _ us hl => match us, hl with | [_], _ => rfl)) (fun d_weight => ?_)
    (case a => k_is); (case l => k_is); (case c => k_is); (case k => k_is)
    refine' Vf.useIt (Vf.dn_mk (x := "_law_fed_text") (st := Vf.s_fedText) (ps := ["_law_machine", "_law_signs"]) KX G ?a ?l ?c ?k (fun _ _ _ _ _ _ us hl => match us, hl with | [_, _], _ => rfl)) (fun d_fedText => ?_)
    (case a => k_is); (case l => k_is); (case c => k_is); (case k => k_is)
    refine' Vf.useIt (Vf.dn_mk (x := "_law_pairs_due") (st := Vf.s_pairsDue) (ps := ["_law_rules", "_law_text", "_law_signs"]) KX G ?a ?l ?c ?k (fun _ _ _ _ _ _ us hl => match us, hl with | [_, _, _], _ => rfl)) (fun d_pairsDue => ?_)
    (case a => k_is); (case l => k_is); (case c => k_is); (case k => k_is)
    refine' Vf.useIt (Vf.dn_mk (x := "_law_all_pairs") (st := Vf.s_allPairs) (ps := ["_law_told"]) KX G ?a ?l ?c ?k (fun _ _ _ _ _ _ us hl => match us, hl with | [_], _ => rfl)) (fun d_allPairs => ?_)
    (case a => k_is); (case l => k_is); (case c => k_is); (case k => k_is)
    refine' Vf.useIt (Vf.dn_mk (x := "_law_walk_right") (st := Vf.s_walkRight) (ps := ["_law_rules", "_law_text", "_law_signs", "_law_told", "_law_ended"]) KX G ?a ?l ?c ?k (fun _ _ _ _ _ _ us hl => match us, hl with | [_, _, _, _, _], _ => rfl)) (fun d_walkRight => ?_)
    (case a => k_is); (case l => k_is); (case c => k_is); (case k => k_is)
    refine' Vf.useIt (Vf.dn_mk (x := "_law_alike_behind") (st := Vf.s_alikeBehind) (ps := ["_law_rules", "_law_one", "_law_two", "_law_more", "_law_left"]) KX G ?a ?l ?c ?k (fun _ _ _ _ _ _ us hl => match us, hl with | [_, _, _, _, _], _ => rfl)) (fun d_alikeBehind => ?_)
    (case a => k_is); (case l => k_is); (case c => k_is); (case k => k_is)
    refine' Vf.useIt (Vf.fc_mk (x := "longest_first") (st := Vf.s_longestFirst) (ps := ["marks"]) KX G ?a ?l ?c ?k (fun _ _ _ _ _ _ us hl => match us, hl with | [_], _ => rfl)) (fun nA => ?_)
    (case a => k_is); (case l => k_is); (case c => k_is); (case k => k_is)
    refine' Vf.useIt (Vf.tab_mk (x := "longest_first") KX ?a ?l ?fdc ?l2 ?vs11) (fun tab => ?_)
    (case a => k_is); (case l => k_is); (case fdc => rfl); (case l2 => k_is); (case vs11 => rfl)
    have tb := PySem.W.tab_of (x := "longest_first") TT KX rfl tab
    refine' Vf.useT (w := w) KX ⟨PySem.W.mg_none_of KX G ?z_enumerate, PySem.W.mg_none_of KX G ?z_max, PySem.W.mg_none_of KX G ?z_range, PySem.W.mg_none_of KX G ?z_len, PySem.W.mg_none_of KX G ?z_any, PySem.W.mg_none_of KX G ?z_sorted, PySem.W.mg_none_of KX G ?z_tuple, PySem.W.mg_none_of KX G ?z_zip, PySem.W.mg_none_of KX G ?z_int, PySem.W.mg_none_of KX G ?z_all, PySem.W.mg_none_of KX G ?z_sum, PySem.W.mg_none_of KX G ?z_isinstance, PySem.W.mg_none_of KX G ?z_list, PySem.W.mg_none_of KX G ?z_min, PySem.W.mg_none_of KX G ?z_str, PySem.W.mg_none_of KX G ?z_set, PySem.W.mg_none_of KX G ?z_repr, Vf.cst_tup KX G ?a_CODE ?l_CODE ?v_CODE ?s_CODE, Vf.cst_str KX G ?a_PLAIN_SIGN ?e_PLAIN_SIGN, Vf.cst_int KX G ?a_MOST_RULES, Vf.cst_int KX G ?a_LONGEST_MARK, Vf.cst_str KX G ?a_MARK_SIGNS ?e_MARK_SIGNS, Vf.cst_tup KX G ?a_KINDS ?l_KINDS ?v_KINDS ?s_KINDS, Vf.cst_tup KX G ?a_DEPTHS ?l_DEPTHS ?v_DEPTHS ?s_DEPTHS, Vf.cst_opt KX G ?a_OPTIONS ?l_OPTIONS ?v_OPTIONS ?s_OPTIONS⟩ (fun T => ?_)
    (case z_enumerate => k_is)
    (case z_max => k_is)
    (case z_range => k_is)
    (case z_len => k_is)
    (case z_any => k_is)
    (case z_sorted => k_is)
    (case z_tuple => k_is)
    (case z_zip => k_is)
    (case z_int => k_is)
    (case z_all => k_is)
    (case z_sum => k_is)
    (case z_isinstance => k_is)
    (case z_list => k_is)
    (case z_min => k_is)
    (case z_str => k_is)
    (case z_set => k_is)
    (case z_repr => k_is)
    (case a_CODE => k_is)
    (case l_CODE => k_is)
    (case v_CODE => exact .cons ⟨_, rfl⟩ (.cons ⟨_, rfl⟩ (.cons ⟨_, rfl⟩ (.nil))))
    (case s_CODE => decide)
    (case a_PLAIN_SIGN => k_is)
    (case e_PLAIN_SIGN => decide +kernel)
    (case a_MOST_RULES => k_is)
    (case a_LONGEST_MARK => k_is)
    (case a_MARK_SIGNS => k_is)
    (case e_MARK_SIGNS => decide +kernel)
    (case a_KINDS => k_is)
    (case l_KINDS => k_is)
    (case v_KINDS => exact .cons ⟨_, rfl⟩ (.cons ⟨_, rfl⟩ (.nil)))
    (case s_KINDS => decide)
    (case a_DEPTHS => k_is)
    (case l_DEPTHS => k_is)
    (case v_DEPTHS => exact .cons ⟨_, rfl⟩ (.cons ⟨_, rfl⟩ (.cons ⟨_, rfl⟩ (.nil))))
    (case s_DEPTHS => decide)
    (case a_OPTIONS => k_is)
    (case l_OPTIONS => k_is)
    (case v_OPTIONS => exact .cons ⟨_, rfl⟩ (.cons ⟨_, rfl⟩ (.cons ⟨_, rfl⟩ (.cons ⟨_, rfl⟩ (.nil)))))
    (case s_OPTIONS => decide)
    refine' Vf.law_end13 KX G hmg tb ?nP ?a ?l ?c ?k (fun base fd TB F => Vf.all_ok T d_isMark d_optionCanStand d_canStand d_wrongColumn d_readRules d_ruleWeight d_pieceMarks d_pen d_draw d_pick d_lawWord d_markSigns d_some d_ruleLine d_newRule d_newRules d_tongueText d_ruleWords d_tongueSigns d_markedText d_opened d_lawPassed d_lawPieces d_lawKinds d_weight d_fedText d_pairsDue d_allPairs d_walkRight d_alikeBehind oR oD oG oM A0 AM eE m_Reader_is_beginning m_Reader_passed m_Reader_read m_ReadingMachine_moved m_ReadingMachine_ended n_Rule_init n_Reader_init n_Tongue_init n_ReadingMachine_init n_Tongue_eq n_Reader_is_beginning n_Reader_passed n_Reader_read n_ReadingMachine_moved n_ReadingMachine_ended k_BadText eW.1 XK nA base TB F)
    (case nP => kernel_rfl); (case a => k_is); (case l => k_is); (case c => k_is); (case k => k_is)
