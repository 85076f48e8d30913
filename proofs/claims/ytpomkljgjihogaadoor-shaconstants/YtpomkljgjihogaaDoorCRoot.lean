/-
  The roots of the primes, reckoned as the statement reckons them: plain functions. No program, no model.
-/
import Derived.Test.YtpomkljgjihogaaDoorSha
namespace Go.Proofs.YtpomkljgjihogaaDoor

def tS (c : List Nat) (x y t : Nat) : List Nat :=
  let s := (c.getD t 0 + x * y % 18446744073709551616) % 18446744073709551616
  ((c.set t s).set (t + 1) (((c.set t s).getD (t + 1) 0 + s / 524288) % 18446744073709551616)).set t (s % 524288)
def tJ (x : Nat) (b : List Nat) (i : Nat) : Nat → Nat → List Nat → List Nat
  | 0, _, c => c
  | n + 1, j, c => tJ x b i n (j + 1) (tS c x (b.getD j 0) (i + j))
def tI (a b : List Nat) : Nat → Nat → List Nat → List Nat
  | 0, _, c => c
  | n + 1, i, c => tI a b n (i + 1) (tJ (a.getD i 0) b i b.length 0 c)
def timesL (a b : List Nat) : List Nat := tI a b a.length 0 (List.replicate (a.length + b.length) 0)
def powL (q : List Nat) : Nat → List Nat → List Nat
  | 0, a => a
  | n + 1, a => powL q n (timesL a q)
def cmpT (a b : List Nat) : Nat → Bool
  | 0 => false
  | n + 1 => if a.getD n 0 = b.getD n 0 then cmpT a b n else decide (b.getD n 0 < a.getD n 0)
def aboveL (x k p : Nat) : Bool :=
  let a := powL [x % 524288, x / 524288] k [1]
  let b := powL [65536, 0] (2 * k) [p % 524288, p / 524288]
  cmpT a b (max a.length b.length)
def rootL (p k : Nat) : Nat → Nat → Nat → Nat
  | 0, lo, _ => lo
  | f + 1, lo, hi => if 1 < hi - lo then (if aboveL ((lo + hi) / 2) k p then rootL p k f lo ((lo + hi) / 2) else rootL p k f ((lo + hi) / 2) hi) else lo
def primeF (n : Nat) : Nat → Nat → Bool
  | 0, _ => decide (1 < n)
  | f + 1, d => if d * d ≤ n then (if n % d = 0 then false else primeF n f (d + 1)) else decide (1 < n)
def primeL (n : Nat) : Bool := primeF n n 2
/-- The walk through the primes from p on, the i-th of them next. -/
def chkL : Nat → Nat → Nat → Bool
  | 0, _, i => decide (64 ≤ i)
  | f + 1, p, i => if 64 ≤ i then true else if primeL p then (rootL p 3 40 0 274877906944 % 4294967296 == kt.getD i 0 && (decide (8 ≤ i) || rootL p 2 40 0 274877906944 % 4294967296 == h0.getD i 0)) && chkL f (p + 1) (i + 1) else chkL f (p + 1) i
theorem chk_pr (f p i : Nat) (hi : ¬ 64 ≤ i) (hp : primeL p = true) (h3 : rootL p 3 40 0 274877906944 % 4294967296 = kt.getD i 0) (h2 : 8 ≤ i ∨ rootL p 2 40 0 274877906944 % 4294967296 = h0.getD i 0) (hn : chkL f (p + 1) (i + 1) = true) : chkL (f + 1) p i = true := by
  unfold chkL
  rw [if_neg hi, if_pos hp, h3, hn]
  rcases h2 with h | h
  · simp [h]
  · rw [h]; simp
theorem chk_np (f p i : Nat) (hi : ¬ 64 ≤ i) (hp : primeL p = false) (hn : chkL f (p + 1) i = true) : chkL (f + 1) p i = true := by
  unfold chkL
  rw [if_neg hi, hp, if_neg (by simp)]
  exact hn
theorem chk312 : chkL (89 + 1) 312 64 = true := by unfold chkL; rw [if_pos (by decide)]
theorem r3_2 : rootL 2 3 40 0 274877906944 % 4294967296 = kt.getD 0 0 := by decide +kernel
theorem r2_2 : rootL 2 2 40 0 274877906944 % 4294967296 = h0.getD 0 0 := by decide +kernel
theorem r3_3 : rootL 3 3 40 0 274877906944 % 4294967296 = kt.getD 1 0 := by decide +kernel
theorem r2_3 : rootL 3 2 40 0 274877906944 % 4294967296 = h0.getD 1 0 := by decide +kernel
theorem r3_5 : rootL 5 3 40 0 274877906944 % 4294967296 = kt.getD 2 0 := by decide +kernel
theorem r2_5 : rootL 5 2 40 0 274877906944 % 4294967296 = h0.getD 2 0 := by decide +kernel
theorem r3_7 : rootL 7 3 40 0 274877906944 % 4294967296 = kt.getD 3 0 := by decide +kernel
theorem r2_7 : rootL 7 2 40 0 274877906944 % 4294967296 = h0.getD 3 0 := by decide +kernel
theorem r3_11 : rootL 11 3 40 0 274877906944 % 4294967296 = kt.getD 4 0 := by decide +kernel
theorem r2_11 : rootL 11 2 40 0 274877906944 % 4294967296 = h0.getD 4 0 := by decide +kernel
theorem r3_13 : rootL 13 3 40 0 274877906944 % 4294967296 = kt.getD 5 0 := by decide +kernel
theorem r2_13 : rootL 13 2 40 0 274877906944 % 4294967296 = h0.getD 5 0 := by decide +kernel
theorem r3_17 : rootL 17 3 40 0 274877906944 % 4294967296 = kt.getD 6 0 := by decide +kernel
theorem r2_17 : rootL 17 2 40 0 274877906944 % 4294967296 = h0.getD 6 0 := by decide +kernel
theorem r3_19 : rootL 19 3 40 0 274877906944 % 4294967296 = kt.getD 7 0 := by decide +kernel
theorem r2_19 : rootL 19 2 40 0 274877906944 % 4294967296 = h0.getD 7 0 := by decide +kernel
theorem r3_23 : rootL 23 3 40 0 274877906944 % 4294967296 = kt.getD 8 0 := by decide +kernel
theorem r3_29 : rootL 29 3 40 0 274877906944 % 4294967296 = kt.getD 9 0 := by decide +kernel
theorem r3_31 : rootL 31 3 40 0 274877906944 % 4294967296 = kt.getD 10 0 := by decide +kernel
theorem r3_37 : rootL 37 3 40 0 274877906944 % 4294967296 = kt.getD 11 0 := by decide +kernel
theorem r3_41 : rootL 41 3 40 0 274877906944 % 4294967296 = kt.getD 12 0 := by decide +kernel
theorem r3_43 : rootL 43 3 40 0 274877906944 % 4294967296 = kt.getD 13 0 := by decide +kernel
theorem r3_47 : rootL 47 3 40 0 274877906944 % 4294967296 = kt.getD 14 0 := by decide +kernel
theorem r3_53 : rootL 53 3 40 0 274877906944 % 4294967296 = kt.getD 15 0 := by decide +kernel
theorem r3_59 : rootL 59 3 40 0 274877906944 % 4294967296 = kt.getD 16 0 := by decide +kernel
theorem r3_61 : rootL 61 3 40 0 274877906944 % 4294967296 = kt.getD 17 0 := by decide +kernel
theorem r3_67 : rootL 67 3 40 0 274877906944 % 4294967296 = kt.getD 18 0 := by decide +kernel
theorem r3_71 : rootL 71 3 40 0 274877906944 % 4294967296 = kt.getD 19 0 := by decide +kernel
theorem r3_73 : rootL 73 3 40 0 274877906944 % 4294967296 = kt.getD 20 0 := by decide +kernel
theorem r3_79 : rootL 79 3 40 0 274877906944 % 4294967296 = kt.getD 21 0 := by decide +kernel
theorem r3_83 : rootL 83 3 40 0 274877906944 % 4294967296 = kt.getD 22 0 := by decide +kernel
theorem r3_89 : rootL 89 3 40 0 274877906944 % 4294967296 = kt.getD 23 0 := by decide +kernel
theorem r3_97 : rootL 97 3 40 0 274877906944 % 4294967296 = kt.getD 24 0 := by decide +kernel
theorem r3_101 : rootL 101 3 40 0 274877906944 % 4294967296 = kt.getD 25 0 := by decide +kernel
theorem r3_103 : rootL 103 3 40 0 274877906944 % 4294967296 = kt.getD 26 0 := by decide +kernel
theorem r3_107 : rootL 107 3 40 0 274877906944 % 4294967296 = kt.getD 27 0 := by decide +kernel
theorem r3_109 : rootL 109 3 40 0 274877906944 % 4294967296 = kt.getD 28 0 := by decide +kernel
theorem r3_113 : rootL 113 3 40 0 274877906944 % 4294967296 = kt.getD 29 0 := by decide +kernel
theorem r3_127 : rootL 127 3 40 0 274877906944 % 4294967296 = kt.getD 30 0 := by decide +kernel
theorem r3_131 : rootL 131 3 40 0 274877906944 % 4294967296 = kt.getD 31 0 := by decide +kernel
theorem r3_137 : rootL 137 3 40 0 274877906944 % 4294967296 = kt.getD 32 0 := by decide +kernel
theorem r3_139 : rootL 139 3 40 0 274877906944 % 4294967296 = kt.getD 33 0 := by decide +kernel
theorem r3_149 : rootL 149 3 40 0 274877906944 % 4294967296 = kt.getD 34 0 := by decide +kernel
theorem r3_151 : rootL 151 3 40 0 274877906944 % 4294967296 = kt.getD 35 0 := by decide +kernel
theorem r3_157 : rootL 157 3 40 0 274877906944 % 4294967296 = kt.getD 36 0 := by decide +kernel
theorem r3_163 : rootL 163 3 40 0 274877906944 % 4294967296 = kt.getD 37 0 := by decide +kernel
theorem r3_167 : rootL 167 3 40 0 274877906944 % 4294967296 = kt.getD 38 0 := by decide +kernel
theorem r3_173 : rootL 173 3 40 0 274877906944 % 4294967296 = kt.getD 39 0 := by decide +kernel
theorem r3_179 : rootL 179 3 40 0 274877906944 % 4294967296 = kt.getD 40 0 := by decide +kernel
theorem r3_181 : rootL 181 3 40 0 274877906944 % 4294967296 = kt.getD 41 0 := by decide +kernel
theorem r3_191 : rootL 191 3 40 0 274877906944 % 4294967296 = kt.getD 42 0 := by decide +kernel
theorem r3_193 : rootL 193 3 40 0 274877906944 % 4294967296 = kt.getD 43 0 := by decide +kernel
theorem r3_197 : rootL 197 3 40 0 274877906944 % 4294967296 = kt.getD 44 0 := by decide +kernel
theorem r3_199 : rootL 199 3 40 0 274877906944 % 4294967296 = kt.getD 45 0 := by decide +kernel
theorem r3_211 : rootL 211 3 40 0 274877906944 % 4294967296 = kt.getD 46 0 := by decide +kernel
theorem r3_223 : rootL 223 3 40 0 274877906944 % 4294967296 = kt.getD 47 0 := by decide +kernel
theorem r3_227 : rootL 227 3 40 0 274877906944 % 4294967296 = kt.getD 48 0 := by decide +kernel
theorem r3_229 : rootL 229 3 40 0 274877906944 % 4294967296 = kt.getD 49 0 := by decide +kernel
theorem r3_233 : rootL 233 3 40 0 274877906944 % 4294967296 = kt.getD 50 0 := by decide +kernel
theorem r3_239 : rootL 239 3 40 0 274877906944 % 4294967296 = kt.getD 51 0 := by decide +kernel
theorem r3_241 : rootL 241 3 40 0 274877906944 % 4294967296 = kt.getD 52 0 := by decide +kernel
theorem r3_251 : rootL 251 3 40 0 274877906944 % 4294967296 = kt.getD 53 0 := by decide +kernel
theorem r3_257 : rootL 257 3 40 0 274877906944 % 4294967296 = kt.getD 54 0 := by decide +kernel
theorem r3_263 : rootL 263 3 40 0 274877906944 % 4294967296 = kt.getD 55 0 := by decide +kernel
theorem r3_269 : rootL 269 3 40 0 274877906944 % 4294967296 = kt.getD 56 0 := by decide +kernel
theorem r3_271 : rootL 271 3 40 0 274877906944 % 4294967296 = kt.getD 57 0 := by decide +kernel
theorem r3_277 : rootL 277 3 40 0 274877906944 % 4294967296 = kt.getD 58 0 := by decide +kernel
theorem r3_281 : rootL 281 3 40 0 274877906944 % 4294967296 = kt.getD 59 0 := by decide +kernel
theorem r3_283 : rootL 283 3 40 0 274877906944 % 4294967296 = kt.getD 60 0 := by decide +kernel
theorem r3_293 : rootL 293 3 40 0 274877906944 % 4294967296 = kt.getD 61 0 := by decide +kernel
theorem r3_307 : rootL 307 3 40 0 274877906944 % 4294967296 = kt.getD 62 0 := by decide +kernel
theorem r3_311 : rootL 311 3 40 0 274877906944 % 4294967296 = kt.getD 63 0 := by decide +kernel
theorem chk311 : chkL (90 + 1) 311 63 = true := chk_pr 90 311 63 (by decide) (by decide +kernel) r3_311 (Or.inl (by decide)) chk312
theorem chk310 : chkL (91 + 1) 310 63 = true := chk_np 91 310 63 (by decide) (by decide +kernel) chk311
theorem chk309 : chkL (92 + 1) 309 63 = true := chk_np 92 309 63 (by decide) (by decide +kernel) chk310
theorem chk308 : chkL (93 + 1) 308 63 = true := chk_np 93 308 63 (by decide) (by decide +kernel) chk309
theorem chk307 : chkL (94 + 1) 307 62 = true := chk_pr 94 307 62 (by decide) (by decide +kernel) r3_307 (Or.inl (by decide)) chk308
theorem chk306 : chkL (95 + 1) 306 62 = true := chk_np 95 306 62 (by decide) (by decide +kernel) chk307
theorem chk305 : chkL (96 + 1) 305 62 = true := chk_np 96 305 62 (by decide) (by decide +kernel) chk306
theorem chk304 : chkL (97 + 1) 304 62 = true := chk_np 97 304 62 (by decide) (by decide +kernel) chk305
theorem chk303 : chkL (98 + 1) 303 62 = true := chk_np 98 303 62 (by decide) (by decide +kernel) chk304
theorem chk302 : chkL (99 + 1) 302 62 = true := chk_np 99 302 62 (by decide) (by decide +kernel) chk303
theorem chk301 : chkL (100 + 1) 301 62 = true := chk_np 100 301 62 (by decide) (by decide +kernel) chk302
theorem chk300 : chkL (101 + 1) 300 62 = true := chk_np 101 300 62 (by decide) (by decide +kernel) chk301
theorem chk299 : chkL (102 + 1) 299 62 = true := chk_np 102 299 62 (by decide) (by decide +kernel) chk300
theorem chk298 : chkL (103 + 1) 298 62 = true := chk_np 103 298 62 (by decide) (by decide +kernel) chk299
theorem chk297 : chkL (104 + 1) 297 62 = true := chk_np 104 297 62 (by decide) (by decide +kernel) chk298
theorem chk296 : chkL (105 + 1) 296 62 = true := chk_np 105 296 62 (by decide) (by decide +kernel) chk297
theorem chk295 : chkL (106 + 1) 295 62 = true := chk_np 106 295 62 (by decide) (by decide +kernel) chk296
theorem chk294 : chkL (107 + 1) 294 62 = true := chk_np 107 294 62 (by decide) (by decide +kernel) chk295
theorem chk293 : chkL (108 + 1) 293 61 = true := chk_pr 108 293 61 (by decide) (by decide +kernel) r3_293 (Or.inl (by decide)) chk294
theorem chk292 : chkL (109 + 1) 292 61 = true := chk_np 109 292 61 (by decide) (by decide +kernel) chk293
theorem chk291 : chkL (110 + 1) 291 61 = true := chk_np 110 291 61 (by decide) (by decide +kernel) chk292
theorem chk290 : chkL (111 + 1) 290 61 = true := chk_np 111 290 61 (by decide) (by decide +kernel) chk291
theorem chk289 : chkL (112 + 1) 289 61 = true := chk_np 112 289 61 (by decide) (by decide +kernel) chk290
theorem chk288 : chkL (113 + 1) 288 61 = true := chk_np 113 288 61 (by decide) (by decide +kernel) chk289
theorem chk287 : chkL (114 + 1) 287 61 = true := chk_np 114 287 61 (by decide) (by decide +kernel) chk288
theorem chk286 : chkL (115 + 1) 286 61 = true := chk_np 115 286 61 (by decide) (by decide +kernel) chk287
theorem chk285 : chkL (116 + 1) 285 61 = true := chk_np 116 285 61 (by decide) (by decide +kernel) chk286
theorem chk284 : chkL (117 + 1) 284 61 = true := chk_np 117 284 61 (by decide) (by decide +kernel) chk285
theorem chk283 : chkL (118 + 1) 283 60 = true := chk_pr 118 283 60 (by decide) (by decide +kernel) r3_283 (Or.inl (by decide)) chk284
theorem chk282 : chkL (119 + 1) 282 60 = true := chk_np 119 282 60 (by decide) (by decide +kernel) chk283
theorem chk281 : chkL (120 + 1) 281 59 = true := chk_pr 120 281 59 (by decide) (by decide +kernel) r3_281 (Or.inl (by decide)) chk282
theorem chk280 : chkL (121 + 1) 280 59 = true := chk_np 121 280 59 (by decide) (by decide +kernel) chk281
theorem chk279 : chkL (122 + 1) 279 59 = true := chk_np 122 279 59 (by decide) (by decide +kernel) chk280
theorem chk278 : chkL (123 + 1) 278 59 = true := chk_np 123 278 59 (by decide) (by decide +kernel) chk279
theorem chk277 : chkL (124 + 1) 277 58 = true := chk_pr 124 277 58 (by decide) (by decide +kernel) r3_277 (Or.inl (by decide)) chk278
theorem chk276 : chkL (125 + 1) 276 58 = true := chk_np 125 276 58 (by decide) (by decide +kernel) chk277
theorem chk275 : chkL (126 + 1) 275 58 = true := chk_np 126 275 58 (by decide) (by decide +kernel) chk276
theorem chk274 : chkL (127 + 1) 274 58 = true := chk_np 127 274 58 (by decide) (by decide +kernel) chk275
theorem chk273 : chkL (128 + 1) 273 58 = true := chk_np 128 273 58 (by decide) (by decide +kernel) chk274
theorem chk272 : chkL (129 + 1) 272 58 = true := chk_np 129 272 58 (by decide) (by decide +kernel) chk273
theorem chk271 : chkL (130 + 1) 271 57 = true := chk_pr 130 271 57 (by decide) (by decide +kernel) r3_271 (Or.inl (by decide)) chk272
theorem chk270 : chkL (131 + 1) 270 57 = true := chk_np 131 270 57 (by decide) (by decide +kernel) chk271
theorem chk269 : chkL (132 + 1) 269 56 = true := chk_pr 132 269 56 (by decide) (by decide +kernel) r3_269 (Or.inl (by decide)) chk270
theorem chk268 : chkL (133 + 1) 268 56 = true := chk_np 133 268 56 (by decide) (by decide +kernel) chk269
theorem chk267 : chkL (134 + 1) 267 56 = true := chk_np 134 267 56 (by decide) (by decide +kernel) chk268
theorem chk266 : chkL (135 + 1) 266 56 = true := chk_np 135 266 56 (by decide) (by decide +kernel) chk267
theorem chk265 : chkL (136 + 1) 265 56 = true := chk_np 136 265 56 (by decide) (by decide +kernel) chk266
theorem chk264 : chkL (137 + 1) 264 56 = true := chk_np 137 264 56 (by decide) (by decide +kernel) chk265
theorem chk263 : chkL (138 + 1) 263 55 = true := chk_pr 138 263 55 (by decide) (by decide +kernel) r3_263 (Or.inl (by decide)) chk264
theorem chk262 : chkL (139 + 1) 262 55 = true := chk_np 139 262 55 (by decide) (by decide +kernel) chk263
theorem chk261 : chkL (140 + 1) 261 55 = true := chk_np 140 261 55 (by decide) (by decide +kernel) chk262
theorem chk260 : chkL (141 + 1) 260 55 = true := chk_np 141 260 55 (by decide) (by decide +kernel) chk261
theorem chk259 : chkL (142 + 1) 259 55 = true := chk_np 142 259 55 (by decide) (by decide +kernel) chk260
theorem chk258 : chkL (143 + 1) 258 55 = true := chk_np 143 258 55 (by decide) (by decide +kernel) chk259
theorem chk257 : chkL (144 + 1) 257 54 = true := chk_pr 144 257 54 (by decide) (by decide +kernel) r3_257 (Or.inl (by decide)) chk258
theorem chk256 : chkL (145 + 1) 256 54 = true := chk_np 145 256 54 (by decide) (by decide +kernel) chk257
theorem chk255 : chkL (146 + 1) 255 54 = true := chk_np 146 255 54 (by decide) (by decide +kernel) chk256
theorem chk254 : chkL (147 + 1) 254 54 = true := chk_np 147 254 54 (by decide) (by decide +kernel) chk255
theorem chk253 : chkL (148 + 1) 253 54 = true := chk_np 148 253 54 (by decide) (by decide +kernel) chk254
theorem chk252 : chkL (149 + 1) 252 54 = true := chk_np 149 252 54 (by decide) (by decide +kernel) chk253
theorem chk251 : chkL (150 + 1) 251 53 = true := chk_pr 150 251 53 (by decide) (by decide +kernel) r3_251 (Or.inl (by decide)) chk252
theorem chk250 : chkL (151 + 1) 250 53 = true := chk_np 151 250 53 (by decide) (by decide +kernel) chk251
theorem chk249 : chkL (152 + 1) 249 53 = true := chk_np 152 249 53 (by decide) (by decide +kernel) chk250
theorem chk248 : chkL (153 + 1) 248 53 = true := chk_np 153 248 53 (by decide) (by decide +kernel) chk249
theorem chk247 : chkL (154 + 1) 247 53 = true := chk_np 154 247 53 (by decide) (by decide +kernel) chk248
theorem chk246 : chkL (155 + 1) 246 53 = true := chk_np 155 246 53 (by decide) (by decide +kernel) chk247
theorem chk245 : chkL (156 + 1) 245 53 = true := chk_np 156 245 53 (by decide) (by decide +kernel) chk246
theorem chk244 : chkL (157 + 1) 244 53 = true := chk_np 157 244 53 (by decide) (by decide +kernel) chk245
theorem chk243 : chkL (158 + 1) 243 53 = true := chk_np 158 243 53 (by decide) (by decide +kernel) chk244
theorem chk242 : chkL (159 + 1) 242 53 = true := chk_np 159 242 53 (by decide) (by decide +kernel) chk243
theorem chk241 : chkL (160 + 1) 241 52 = true := chk_pr 160 241 52 (by decide) (by decide +kernel) r3_241 (Or.inl (by decide)) chk242
theorem chk240 : chkL (161 + 1) 240 52 = true := chk_np 161 240 52 (by decide) (by decide +kernel) chk241
theorem chk239 : chkL (162 + 1) 239 51 = true := chk_pr 162 239 51 (by decide) (by decide +kernel) r3_239 (Or.inl (by decide)) chk240
theorem chk238 : chkL (163 + 1) 238 51 = true := chk_np 163 238 51 (by decide) (by decide +kernel) chk239
theorem chk237 : chkL (164 + 1) 237 51 = true := chk_np 164 237 51 (by decide) (by decide +kernel) chk238
theorem chk236 : chkL (165 + 1) 236 51 = true := chk_np 165 236 51 (by decide) (by decide +kernel) chk237
theorem chk235 : chkL (166 + 1) 235 51 = true := chk_np 166 235 51 (by decide) (by decide +kernel) chk236
theorem chk234 : chkL (167 + 1) 234 51 = true := chk_np 167 234 51 (by decide) (by decide +kernel) chk235
theorem chk233 : chkL (168 + 1) 233 50 = true := chk_pr 168 233 50 (by decide) (by decide +kernel) r3_233 (Or.inl (by decide)) chk234
theorem chk232 : chkL (169 + 1) 232 50 = true := chk_np 169 232 50 (by decide) (by decide +kernel) chk233
theorem chk231 : chkL (170 + 1) 231 50 = true := chk_np 170 231 50 (by decide) (by decide +kernel) chk232
theorem chk230 : chkL (171 + 1) 230 50 = true := chk_np 171 230 50 (by decide) (by decide +kernel) chk231
theorem chk229 : chkL (172 + 1) 229 49 = true := chk_pr 172 229 49 (by decide) (by decide +kernel) r3_229 (Or.inl (by decide)) chk230
theorem chk228 : chkL (173 + 1) 228 49 = true := chk_np 173 228 49 (by decide) (by decide +kernel) chk229
theorem chk227 : chkL (174 + 1) 227 48 = true := chk_pr 174 227 48 (by decide) (by decide +kernel) r3_227 (Or.inl (by decide)) chk228
theorem chk226 : chkL (175 + 1) 226 48 = true := chk_np 175 226 48 (by decide) (by decide +kernel) chk227
theorem chk225 : chkL (176 + 1) 225 48 = true := chk_np 176 225 48 (by decide) (by decide +kernel) chk226
theorem chk224 : chkL (177 + 1) 224 48 = true := chk_np 177 224 48 (by decide) (by decide +kernel) chk225
theorem chk223 : chkL (178 + 1) 223 47 = true := chk_pr 178 223 47 (by decide) (by decide +kernel) r3_223 (Or.inl (by decide)) chk224
theorem chk222 : chkL (179 + 1) 222 47 = true := chk_np 179 222 47 (by decide) (by decide +kernel) chk223
theorem chk221 : chkL (180 + 1) 221 47 = true := chk_np 180 221 47 (by decide) (by decide +kernel) chk222
theorem chk220 : chkL (181 + 1) 220 47 = true := chk_np 181 220 47 (by decide) (by decide +kernel) chk221
theorem chk219 : chkL (182 + 1) 219 47 = true := chk_np 182 219 47 (by decide) (by decide +kernel) chk220
theorem chk218 : chkL (183 + 1) 218 47 = true := chk_np 183 218 47 (by decide) (by decide +kernel) chk219
theorem chk217 : chkL (184 + 1) 217 47 = true := chk_np 184 217 47 (by decide) (by decide +kernel) chk218
theorem chk216 : chkL (185 + 1) 216 47 = true := chk_np 185 216 47 (by decide) (by decide +kernel) chk217
theorem chk215 : chkL (186 + 1) 215 47 = true := chk_np 186 215 47 (by decide) (by decide +kernel) chk216
theorem chk214 : chkL (187 + 1) 214 47 = true := chk_np 187 214 47 (by decide) (by decide +kernel) chk215
theorem chk213 : chkL (188 + 1) 213 47 = true := chk_np 188 213 47 (by decide) (by decide +kernel) chk214
theorem chk212 : chkL (189 + 1) 212 47 = true := chk_np 189 212 47 (by decide) (by decide +kernel) chk213
theorem chk211 : chkL (190 + 1) 211 46 = true := chk_pr 190 211 46 (by decide) (by decide +kernel) r3_211 (Or.inl (by decide)) chk212
theorem chk210 : chkL (191 + 1) 210 46 = true := chk_np 191 210 46 (by decide) (by decide +kernel) chk211
theorem chk209 : chkL (192 + 1) 209 46 = true := chk_np 192 209 46 (by decide) (by decide +kernel) chk210
theorem chk208 : chkL (193 + 1) 208 46 = true := chk_np 193 208 46 (by decide) (by decide +kernel) chk209
theorem chk207 : chkL (194 + 1) 207 46 = true := chk_np 194 207 46 (by decide) (by decide +kernel) chk208
theorem chk206 : chkL (195 + 1) 206 46 = true := chk_np 195 206 46 (by decide) (by decide +kernel) chk207
theorem chk205 : chkL (196 + 1) 205 46 = true := chk_np 196 205 46 (by decide) (by decide +kernel) chk206
theorem chk204 : chkL (197 + 1) 204 46 = true := chk_np 197 204 46 (by decide) (by decide +kernel) chk205
theorem chk203 : chkL (198 + 1) 203 46 = true := chk_np 198 203 46 (by decide) (by decide +kernel) chk204
theorem chk202 : chkL (199 + 1) 202 46 = true := chk_np 199 202 46 (by decide) (by decide +kernel) chk203
theorem chk201 : chkL (200 + 1) 201 46 = true := chk_np 200 201 46 (by decide) (by decide +kernel) chk202
theorem chk200 : chkL (201 + 1) 200 46 = true := chk_np 201 200 46 (by decide) (by decide +kernel) chk201
theorem chk199 : chkL (202 + 1) 199 45 = true := chk_pr 202 199 45 (by decide) (by decide +kernel) r3_199 (Or.inl (by decide)) chk200
theorem chk198 : chkL (203 + 1) 198 45 = true := chk_np 203 198 45 (by decide) (by decide +kernel) chk199
theorem chk197 : chkL (204 + 1) 197 44 = true := chk_pr 204 197 44 (by decide) (by decide +kernel) r3_197 (Or.inl (by decide)) chk198
theorem chk196 : chkL (205 + 1) 196 44 = true := chk_np 205 196 44 (by decide) (by decide +kernel) chk197
theorem chk195 : chkL (206 + 1) 195 44 = true := chk_np 206 195 44 (by decide) (by decide +kernel) chk196
theorem chk194 : chkL (207 + 1) 194 44 = true := chk_np 207 194 44 (by decide) (by decide +kernel) chk195
theorem chk193 : chkL (208 + 1) 193 43 = true := chk_pr 208 193 43 (by decide) (by decide +kernel) r3_193 (Or.inl (by decide)) chk194
theorem chk192 : chkL (209 + 1) 192 43 = true := chk_np 209 192 43 (by decide) (by decide +kernel) chk193
theorem chk191 : chkL (210 + 1) 191 42 = true := chk_pr 210 191 42 (by decide) (by decide +kernel) r3_191 (Or.inl (by decide)) chk192
theorem chk190 : chkL (211 + 1) 190 42 = true := chk_np 211 190 42 (by decide) (by decide +kernel) chk191
theorem chk189 : chkL (212 + 1) 189 42 = true := chk_np 212 189 42 (by decide) (by decide +kernel) chk190
theorem chk188 : chkL (213 + 1) 188 42 = true := chk_np 213 188 42 (by decide) (by decide +kernel) chk189
theorem chk187 : chkL (214 + 1) 187 42 = true := chk_np 214 187 42 (by decide) (by decide +kernel) chk188
theorem chk186 : chkL (215 + 1) 186 42 = true := chk_np 215 186 42 (by decide) (by decide +kernel) chk187
theorem chk185 : chkL (216 + 1) 185 42 = true := chk_np 216 185 42 (by decide) (by decide +kernel) chk186
theorem chk184 : chkL (217 + 1) 184 42 = true := chk_np 217 184 42 (by decide) (by decide +kernel) chk185
theorem chk183 : chkL (218 + 1) 183 42 = true := chk_np 218 183 42 (by decide) (by decide +kernel) chk184
theorem chk182 : chkL (219 + 1) 182 42 = true := chk_np 219 182 42 (by decide) (by decide +kernel) chk183
theorem chk181 : chkL (220 + 1) 181 41 = true := chk_pr 220 181 41 (by decide) (by decide +kernel) r3_181 (Or.inl (by decide)) chk182
theorem chk180 : chkL (221 + 1) 180 41 = true := chk_np 221 180 41 (by decide) (by decide +kernel) chk181
theorem chk179 : chkL (222 + 1) 179 40 = true := chk_pr 222 179 40 (by decide) (by decide +kernel) r3_179 (Or.inl (by decide)) chk180
theorem chk178 : chkL (223 + 1) 178 40 = true := chk_np 223 178 40 (by decide) (by decide +kernel) chk179
theorem chk177 : chkL (224 + 1) 177 40 = true := chk_np 224 177 40 (by decide) (by decide +kernel) chk178
theorem chk176 : chkL (225 + 1) 176 40 = true := chk_np 225 176 40 (by decide) (by decide +kernel) chk177
theorem chk175 : chkL (226 + 1) 175 40 = true := chk_np 226 175 40 (by decide) (by decide +kernel) chk176
theorem chk174 : chkL (227 + 1) 174 40 = true := chk_np 227 174 40 (by decide) (by decide +kernel) chk175
theorem chk173 : chkL (228 + 1) 173 39 = true := chk_pr 228 173 39 (by decide) (by decide +kernel) r3_173 (Or.inl (by decide)) chk174
theorem chk172 : chkL (229 + 1) 172 39 = true := chk_np 229 172 39 (by decide) (by decide +kernel) chk173
theorem chk171 : chkL (230 + 1) 171 39 = true := chk_np 230 171 39 (by decide) (by decide +kernel) chk172
theorem chk170 : chkL (231 + 1) 170 39 = true := chk_np 231 170 39 (by decide) (by decide +kernel) chk171
theorem chk169 : chkL (232 + 1) 169 39 = true := chk_np 232 169 39 (by decide) (by decide +kernel) chk170
theorem chk168 : chkL (233 + 1) 168 39 = true := chk_np 233 168 39 (by decide) (by decide +kernel) chk169
theorem chk167 : chkL (234 + 1) 167 38 = true := chk_pr 234 167 38 (by decide) (by decide +kernel) r3_167 (Or.inl (by decide)) chk168
theorem chk166 : chkL (235 + 1) 166 38 = true := chk_np 235 166 38 (by decide) (by decide +kernel) chk167
theorem chk165 : chkL (236 + 1) 165 38 = true := chk_np 236 165 38 (by decide) (by decide +kernel) chk166
theorem chk164 : chkL (237 + 1) 164 38 = true := chk_np 237 164 38 (by decide) (by decide +kernel) chk165
theorem chk163 : chkL (238 + 1) 163 37 = true := chk_pr 238 163 37 (by decide) (by decide +kernel) r3_163 (Or.inl (by decide)) chk164
theorem chk162 : chkL (239 + 1) 162 37 = true := chk_np 239 162 37 (by decide) (by decide +kernel) chk163
theorem chk161 : chkL (240 + 1) 161 37 = true := chk_np 240 161 37 (by decide) (by decide +kernel) chk162
theorem chk160 : chkL (241 + 1) 160 37 = true := chk_np 241 160 37 (by decide) (by decide +kernel) chk161
theorem chk159 : chkL (242 + 1) 159 37 = true := chk_np 242 159 37 (by decide) (by decide +kernel) chk160
theorem chk158 : chkL (243 + 1) 158 37 = true := chk_np 243 158 37 (by decide) (by decide +kernel) chk159
theorem chk157 : chkL (244 + 1) 157 36 = true := chk_pr 244 157 36 (by decide) (by decide +kernel) r3_157 (Or.inl (by decide)) chk158
theorem chk156 : chkL (245 + 1) 156 36 = true := chk_np 245 156 36 (by decide) (by decide +kernel) chk157
theorem chk155 : chkL (246 + 1) 155 36 = true := chk_np 246 155 36 (by decide) (by decide +kernel) chk156
theorem chk154 : chkL (247 + 1) 154 36 = true := chk_np 247 154 36 (by decide) (by decide +kernel) chk155
theorem chk153 : chkL (248 + 1) 153 36 = true := chk_np 248 153 36 (by decide) (by decide +kernel) chk154
theorem chk152 : chkL (249 + 1) 152 36 = true := chk_np 249 152 36 (by decide) (by decide +kernel) chk153
theorem chk151 : chkL (250 + 1) 151 35 = true := chk_pr 250 151 35 (by decide) (by decide +kernel) r3_151 (Or.inl (by decide)) chk152
theorem chk150 : chkL (251 + 1) 150 35 = true := chk_np 251 150 35 (by decide) (by decide +kernel) chk151
theorem chk149 : chkL (252 + 1) 149 34 = true := chk_pr 252 149 34 (by decide) (by decide +kernel) r3_149 (Or.inl (by decide)) chk150
theorem chk148 : chkL (253 + 1) 148 34 = true := chk_np 253 148 34 (by decide) (by decide +kernel) chk149
theorem chk147 : chkL (254 + 1) 147 34 = true := chk_np 254 147 34 (by decide) (by decide +kernel) chk148
theorem chk146 : chkL (255 + 1) 146 34 = true := chk_np 255 146 34 (by decide) (by decide +kernel) chk147
theorem chk145 : chkL (256 + 1) 145 34 = true := chk_np 256 145 34 (by decide) (by decide +kernel) chk146
theorem chk144 : chkL (257 + 1) 144 34 = true := chk_np 257 144 34 (by decide) (by decide +kernel) chk145
theorem chk143 : chkL (258 + 1) 143 34 = true := chk_np 258 143 34 (by decide) (by decide +kernel) chk144
theorem chk142 : chkL (259 + 1) 142 34 = true := chk_np 259 142 34 (by decide) (by decide +kernel) chk143
theorem chk141 : chkL (260 + 1) 141 34 = true := chk_np 260 141 34 (by decide) (by decide +kernel) chk142
theorem chk140 : chkL (261 + 1) 140 34 = true := chk_np 261 140 34 (by decide) (by decide +kernel) chk141
theorem chk139 : chkL (262 + 1) 139 33 = true := chk_pr 262 139 33 (by decide) (by decide +kernel) r3_139 (Or.inl (by decide)) chk140
theorem chk138 : chkL (263 + 1) 138 33 = true := chk_np 263 138 33 (by decide) (by decide +kernel) chk139
theorem chk137 : chkL (264 + 1) 137 32 = true := chk_pr 264 137 32 (by decide) (by decide +kernel) r3_137 (Or.inl (by decide)) chk138
theorem chk136 : chkL (265 + 1) 136 32 = true := chk_np 265 136 32 (by decide) (by decide +kernel) chk137
theorem chk135 : chkL (266 + 1) 135 32 = true := chk_np 266 135 32 (by decide) (by decide +kernel) chk136
theorem chk134 : chkL (267 + 1) 134 32 = true := chk_np 267 134 32 (by decide) (by decide +kernel) chk135
theorem chk133 : chkL (268 + 1) 133 32 = true := chk_np 268 133 32 (by decide) (by decide +kernel) chk134
theorem chk132 : chkL (269 + 1) 132 32 = true := chk_np 269 132 32 (by decide) (by decide +kernel) chk133
theorem chk131 : chkL (270 + 1) 131 31 = true := chk_pr 270 131 31 (by decide) (by decide +kernel) r3_131 (Or.inl (by decide)) chk132
theorem chk130 : chkL (271 + 1) 130 31 = true := chk_np 271 130 31 (by decide) (by decide +kernel) chk131
theorem chk129 : chkL (272 + 1) 129 31 = true := chk_np 272 129 31 (by decide) (by decide +kernel) chk130
theorem chk128 : chkL (273 + 1) 128 31 = true := chk_np 273 128 31 (by decide) (by decide +kernel) chk129
theorem chk127 : chkL (274 + 1) 127 30 = true := chk_pr 274 127 30 (by decide) (by decide +kernel) r3_127 (Or.inl (by decide)) chk128
theorem chk126 : chkL (275 + 1) 126 30 = true := chk_np 275 126 30 (by decide) (by decide +kernel) chk127
theorem chk125 : chkL (276 + 1) 125 30 = true := chk_np 276 125 30 (by decide) (by decide +kernel) chk126
theorem chk124 : chkL (277 + 1) 124 30 = true := chk_np 277 124 30 (by decide) (by decide +kernel) chk125
theorem chk123 : chkL (278 + 1) 123 30 = true := chk_np 278 123 30 (by decide) (by decide +kernel) chk124
theorem chk122 : chkL (279 + 1) 122 30 = true := chk_np 279 122 30 (by decide) (by decide +kernel) chk123
theorem chk121 : chkL (280 + 1) 121 30 = true := chk_np 280 121 30 (by decide) (by decide +kernel) chk122
theorem chk120 : chkL (281 + 1) 120 30 = true := chk_np 281 120 30 (by decide) (by decide +kernel) chk121
theorem chk119 : chkL (282 + 1) 119 30 = true := chk_np 282 119 30 (by decide) (by decide +kernel) chk120
theorem chk118 : chkL (283 + 1) 118 30 = true := chk_np 283 118 30 (by decide) (by decide +kernel) chk119
theorem chk117 : chkL (284 + 1) 117 30 = true := chk_np 284 117 30 (by decide) (by decide +kernel) chk118
theorem chk116 : chkL (285 + 1) 116 30 = true := chk_np 285 116 30 (by decide) (by decide +kernel) chk117
theorem chk115 : chkL (286 + 1) 115 30 = true := chk_np 286 115 30 (by decide) (by decide +kernel) chk116
theorem chk114 : chkL (287 + 1) 114 30 = true := chk_np 287 114 30 (by decide) (by decide +kernel) chk115
theorem chk113 : chkL (288 + 1) 113 29 = true := chk_pr 288 113 29 (by decide) (by decide +kernel) r3_113 (Or.inl (by decide)) chk114
theorem chk112 : chkL (289 + 1) 112 29 = true := chk_np 289 112 29 (by decide) (by decide +kernel) chk113
theorem chk111 : chkL (290 + 1) 111 29 = true := chk_np 290 111 29 (by decide) (by decide +kernel) chk112
theorem chk110 : chkL (291 + 1) 110 29 = true := chk_np 291 110 29 (by decide) (by decide +kernel) chk111
theorem chk109 : chkL (292 + 1) 109 28 = true := chk_pr 292 109 28 (by decide) (by decide +kernel) r3_109 (Or.inl (by decide)) chk110
theorem chk108 : chkL (293 + 1) 108 28 = true := chk_np 293 108 28 (by decide) (by decide +kernel) chk109
theorem chk107 : chkL (294 + 1) 107 27 = true := chk_pr 294 107 27 (by decide) (by decide +kernel) r3_107 (Or.inl (by decide)) chk108
theorem chk106 : chkL (295 + 1) 106 27 = true := chk_np 295 106 27 (by decide) (by decide +kernel) chk107
theorem chk105 : chkL (296 + 1) 105 27 = true := chk_np 296 105 27 (by decide) (by decide +kernel) chk106
theorem chk104 : chkL (297 + 1) 104 27 = true := chk_np 297 104 27 (by decide) (by decide +kernel) chk105
theorem chk103 : chkL (298 + 1) 103 26 = true := chk_pr 298 103 26 (by decide) (by decide +kernel) r3_103 (Or.inl (by decide)) chk104
theorem chk102 : chkL (299 + 1) 102 26 = true := chk_np 299 102 26 (by decide) (by decide +kernel) chk103
theorem chk101 : chkL (300 + 1) 101 25 = true := chk_pr 300 101 25 (by decide) (by decide +kernel) r3_101 (Or.inl (by decide)) chk102
theorem chk100 : chkL (301 + 1) 100 25 = true := chk_np 301 100 25 (by decide) (by decide +kernel) chk101
theorem chk99 : chkL (302 + 1) 99 25 = true := chk_np 302 99 25 (by decide) (by decide +kernel) chk100
theorem chk98 : chkL (303 + 1) 98 25 = true := chk_np 303 98 25 (by decide) (by decide +kernel) chk99
theorem chk97 : chkL (304 + 1) 97 24 = true := chk_pr 304 97 24 (by decide) (by decide +kernel) r3_97 (Or.inl (by decide)) chk98
theorem chk96 : chkL (305 + 1) 96 24 = true := chk_np 305 96 24 (by decide) (by decide +kernel) chk97
theorem chk95 : chkL (306 + 1) 95 24 = true := chk_np 306 95 24 (by decide) (by decide +kernel) chk96
theorem chk94 : chkL (307 + 1) 94 24 = true := chk_np 307 94 24 (by decide) (by decide +kernel) chk95
theorem chk93 : chkL (308 + 1) 93 24 = true := chk_np 308 93 24 (by decide) (by decide +kernel) chk94
theorem chk92 : chkL (309 + 1) 92 24 = true := chk_np 309 92 24 (by decide) (by decide +kernel) chk93
theorem chk91 : chkL (310 + 1) 91 24 = true := chk_np 310 91 24 (by decide) (by decide +kernel) chk92
theorem chk90 : chkL (311 + 1) 90 24 = true := chk_np 311 90 24 (by decide) (by decide +kernel) chk91
theorem chk89 : chkL (312 + 1) 89 23 = true := chk_pr 312 89 23 (by decide) (by decide +kernel) r3_89 (Or.inl (by decide)) chk90
theorem chk88 : chkL (313 + 1) 88 23 = true := chk_np 313 88 23 (by decide) (by decide +kernel) chk89
theorem chk87 : chkL (314 + 1) 87 23 = true := chk_np 314 87 23 (by decide) (by decide +kernel) chk88
theorem chk86 : chkL (315 + 1) 86 23 = true := chk_np 315 86 23 (by decide) (by decide +kernel) chk87
theorem chk85 : chkL (316 + 1) 85 23 = true := chk_np 316 85 23 (by decide) (by decide +kernel) chk86
theorem chk84 : chkL (317 + 1) 84 23 = true := chk_np 317 84 23 (by decide) (by decide +kernel) chk85
theorem chk83 : chkL (318 + 1) 83 22 = true := chk_pr 318 83 22 (by decide) (by decide +kernel) r3_83 (Or.inl (by decide)) chk84
theorem chk82 : chkL (319 + 1) 82 22 = true := chk_np 319 82 22 (by decide) (by decide +kernel) chk83
theorem chk81 : chkL (320 + 1) 81 22 = true := chk_np 320 81 22 (by decide) (by decide +kernel) chk82
theorem chk80 : chkL (321 + 1) 80 22 = true := chk_np 321 80 22 (by decide) (by decide +kernel) chk81
theorem chk79 : chkL (322 + 1) 79 21 = true := chk_pr 322 79 21 (by decide) (by decide +kernel) r3_79 (Or.inl (by decide)) chk80
theorem chk78 : chkL (323 + 1) 78 21 = true := chk_np 323 78 21 (by decide) (by decide +kernel) chk79
theorem chk77 : chkL (324 + 1) 77 21 = true := chk_np 324 77 21 (by decide) (by decide +kernel) chk78
theorem chk76 : chkL (325 + 1) 76 21 = true := chk_np 325 76 21 (by decide) (by decide +kernel) chk77
theorem chk75 : chkL (326 + 1) 75 21 = true := chk_np 326 75 21 (by decide) (by decide +kernel) chk76
theorem chk74 : chkL (327 + 1) 74 21 = true := chk_np 327 74 21 (by decide) (by decide +kernel) chk75
theorem chk73 : chkL (328 + 1) 73 20 = true := chk_pr 328 73 20 (by decide) (by decide +kernel) r3_73 (Or.inl (by decide)) chk74
theorem chk72 : chkL (329 + 1) 72 20 = true := chk_np 329 72 20 (by decide) (by decide +kernel) chk73
theorem chk71 : chkL (330 + 1) 71 19 = true := chk_pr 330 71 19 (by decide) (by decide +kernel) r3_71 (Or.inl (by decide)) chk72
theorem chk70 : chkL (331 + 1) 70 19 = true := chk_np 331 70 19 (by decide) (by decide +kernel) chk71
theorem chk69 : chkL (332 + 1) 69 19 = true := chk_np 332 69 19 (by decide) (by decide +kernel) chk70
theorem chk68 : chkL (333 + 1) 68 19 = true := chk_np 333 68 19 (by decide) (by decide +kernel) chk69
theorem chk67 : chkL (334 + 1) 67 18 = true := chk_pr 334 67 18 (by decide) (by decide +kernel) r3_67 (Or.inl (by decide)) chk68
theorem chk66 : chkL (335 + 1) 66 18 = true := chk_np 335 66 18 (by decide) (by decide +kernel) chk67
theorem chk65 : chkL (336 + 1) 65 18 = true := chk_np 336 65 18 (by decide) (by decide +kernel) chk66
theorem chk64 : chkL (337 + 1) 64 18 = true := chk_np 337 64 18 (by decide) (by decide +kernel) chk65
theorem chk63 : chkL (338 + 1) 63 18 = true := chk_np 338 63 18 (by decide) (by decide +kernel) chk64
theorem chk62 : chkL (339 + 1) 62 18 = true := chk_np 339 62 18 (by decide) (by decide +kernel) chk63
theorem chk61 : chkL (340 + 1) 61 17 = true := chk_pr 340 61 17 (by decide) (by decide +kernel) r3_61 (Or.inl (by decide)) chk62
theorem chk60 : chkL (341 + 1) 60 17 = true := chk_np 341 60 17 (by decide) (by decide +kernel) chk61
theorem chk59 : chkL (342 + 1) 59 16 = true := chk_pr 342 59 16 (by decide) (by decide +kernel) r3_59 (Or.inl (by decide)) chk60
theorem chk58 : chkL (343 + 1) 58 16 = true := chk_np 343 58 16 (by decide) (by decide +kernel) chk59
theorem chk57 : chkL (344 + 1) 57 16 = true := chk_np 344 57 16 (by decide) (by decide +kernel) chk58
theorem chk56 : chkL (345 + 1) 56 16 = true := chk_np 345 56 16 (by decide) (by decide +kernel) chk57
theorem chk55 : chkL (346 + 1) 55 16 = true := chk_np 346 55 16 (by decide) (by decide +kernel) chk56
theorem chk54 : chkL (347 + 1) 54 16 = true := chk_np 347 54 16 (by decide) (by decide +kernel) chk55
theorem chk53 : chkL (348 + 1) 53 15 = true := chk_pr 348 53 15 (by decide) (by decide +kernel) r3_53 (Or.inl (by decide)) chk54
theorem chk52 : chkL (349 + 1) 52 15 = true := chk_np 349 52 15 (by decide) (by decide +kernel) chk53
theorem chk51 : chkL (350 + 1) 51 15 = true := chk_np 350 51 15 (by decide) (by decide +kernel) chk52
theorem chk50 : chkL (351 + 1) 50 15 = true := chk_np 351 50 15 (by decide) (by decide +kernel) chk51
theorem chk49 : chkL (352 + 1) 49 15 = true := chk_np 352 49 15 (by decide) (by decide +kernel) chk50
theorem chk48 : chkL (353 + 1) 48 15 = true := chk_np 353 48 15 (by decide) (by decide +kernel) chk49
theorem chk47 : chkL (354 + 1) 47 14 = true := chk_pr 354 47 14 (by decide) (by decide +kernel) r3_47 (Or.inl (by decide)) chk48
theorem chk46 : chkL (355 + 1) 46 14 = true := chk_np 355 46 14 (by decide) (by decide +kernel) chk47
theorem chk45 : chkL (356 + 1) 45 14 = true := chk_np 356 45 14 (by decide) (by decide +kernel) chk46
theorem chk44 : chkL (357 + 1) 44 14 = true := chk_np 357 44 14 (by decide) (by decide +kernel) chk45
theorem chk43 : chkL (358 + 1) 43 13 = true := chk_pr 358 43 13 (by decide) (by decide +kernel) r3_43 (Or.inl (by decide)) chk44
theorem chk42 : chkL (359 + 1) 42 13 = true := chk_np 359 42 13 (by decide) (by decide +kernel) chk43
theorem chk41 : chkL (360 + 1) 41 12 = true := chk_pr 360 41 12 (by decide) (by decide +kernel) r3_41 (Or.inl (by decide)) chk42
theorem chk40 : chkL (361 + 1) 40 12 = true := chk_np 361 40 12 (by decide) (by decide +kernel) chk41
theorem chk39 : chkL (362 + 1) 39 12 = true := chk_np 362 39 12 (by decide) (by decide +kernel) chk40
theorem chk38 : chkL (363 + 1) 38 12 = true := chk_np 363 38 12 (by decide) (by decide +kernel) chk39
theorem chk37 : chkL (364 + 1) 37 11 = true := chk_pr 364 37 11 (by decide) (by decide +kernel) r3_37 (Or.inl (by decide)) chk38
theorem chk36 : chkL (365 + 1) 36 11 = true := chk_np 365 36 11 (by decide) (by decide +kernel) chk37
theorem chk35 : chkL (366 + 1) 35 11 = true := chk_np 366 35 11 (by decide) (by decide +kernel) chk36
theorem chk34 : chkL (367 + 1) 34 11 = true := chk_np 367 34 11 (by decide) (by decide +kernel) chk35
theorem chk33 : chkL (368 + 1) 33 11 = true := chk_np 368 33 11 (by decide) (by decide +kernel) chk34
theorem chk32 : chkL (369 + 1) 32 11 = true := chk_np 369 32 11 (by decide) (by decide +kernel) chk33
theorem chk31 : chkL (370 + 1) 31 10 = true := chk_pr 370 31 10 (by decide) (by decide +kernel) r3_31 (Or.inl (by decide)) chk32
theorem chk30 : chkL (371 + 1) 30 10 = true := chk_np 371 30 10 (by decide) (by decide +kernel) chk31
theorem chk29 : chkL (372 + 1) 29 9 = true := chk_pr 372 29 9 (by decide) (by decide +kernel) r3_29 (Or.inl (by decide)) chk30
theorem chk28 : chkL (373 + 1) 28 9 = true := chk_np 373 28 9 (by decide) (by decide +kernel) chk29
theorem chk27 : chkL (374 + 1) 27 9 = true := chk_np 374 27 9 (by decide) (by decide +kernel) chk28
theorem chk26 : chkL (375 + 1) 26 9 = true := chk_np 375 26 9 (by decide) (by decide +kernel) chk27
theorem chk25 : chkL (376 + 1) 25 9 = true := chk_np 376 25 9 (by decide) (by decide +kernel) chk26
theorem chk24 : chkL (377 + 1) 24 9 = true := chk_np 377 24 9 (by decide) (by decide +kernel) chk25
theorem chk23 : chkL (378 + 1) 23 8 = true := chk_pr 378 23 8 (by decide) (by decide +kernel) r3_23 (Or.inl (by decide)) chk24
theorem chk22 : chkL (379 + 1) 22 8 = true := chk_np 379 22 8 (by decide) (by decide +kernel) chk23
theorem chk21 : chkL (380 + 1) 21 8 = true := chk_np 380 21 8 (by decide) (by decide +kernel) chk22
theorem chk20 : chkL (381 + 1) 20 8 = true := chk_np 381 20 8 (by decide) (by decide +kernel) chk21
theorem chk19 : chkL (382 + 1) 19 7 = true := chk_pr 382 19 7 (by decide) (by decide +kernel) r3_19 (Or.inr r2_19) chk20
theorem chk18 : chkL (383 + 1) 18 7 = true := chk_np 383 18 7 (by decide) (by decide +kernel) chk19
theorem chk17 : chkL (384 + 1) 17 6 = true := chk_pr 384 17 6 (by decide) (by decide +kernel) r3_17 (Or.inr r2_17) chk18
theorem chk16 : chkL (385 + 1) 16 6 = true := chk_np 385 16 6 (by decide) (by decide +kernel) chk17
theorem chk15 : chkL (386 + 1) 15 6 = true := chk_np 386 15 6 (by decide) (by decide +kernel) chk16
theorem chk14 : chkL (387 + 1) 14 6 = true := chk_np 387 14 6 (by decide) (by decide +kernel) chk15
theorem chk13 : chkL (388 + 1) 13 5 = true := chk_pr 388 13 5 (by decide) (by decide +kernel) r3_13 (Or.inr r2_13) chk14
theorem chk12 : chkL (389 + 1) 12 5 = true := chk_np 389 12 5 (by decide) (by decide +kernel) chk13
theorem chk11 : chkL (390 + 1) 11 4 = true := chk_pr 390 11 4 (by decide) (by decide +kernel) r3_11 (Or.inr r2_11) chk12
theorem chk10 : chkL (391 + 1) 10 4 = true := chk_np 391 10 4 (by decide) (by decide +kernel) chk11
theorem chk9 : chkL (392 + 1) 9 4 = true := chk_np 392 9 4 (by decide) (by decide +kernel) chk10
theorem chk8 : chkL (393 + 1) 8 4 = true := chk_np 393 8 4 (by decide) (by decide +kernel) chk9
theorem chk7 : chkL (394 + 1) 7 3 = true := chk_pr 394 7 3 (by decide) (by decide +kernel) r3_7 (Or.inr r2_7) chk8
theorem chk6 : chkL (395 + 1) 6 3 = true := chk_np 395 6 3 (by decide) (by decide +kernel) chk7
theorem chk5 : chkL (396 + 1) 5 2 = true := chk_pr 396 5 2 (by decide) (by decide +kernel) r3_5 (Or.inr r2_5) chk6
theorem chk4 : chkL (397 + 1) 4 2 = true := chk_np 397 4 2 (by decide) (by decide +kernel) chk5
theorem chk3 : chkL (398 + 1) 3 1 = true := chk_pr 398 3 1 (by decide) (by decide +kernel) r3_3 (Or.inr r2_3) chk4
theorem chk2 : chkL (399 + 1) 2 0 = true := chk_pr 399 2 0 (by decide) (by decide +kernel) r3_2 (Or.inr r2_2) chk3
theorem chk_all : chkL 400 2 0 = true := chk2
theorem tS_len (c : List Nat) (x y t : Nat) : (tS c x y t).length = c.length := by simp [tS]
theorem tJ_len (x : Nat) (b : List Nat) (i : Nat) : ∀ n j c, (tJ x b i n j c).length = c.length
  | 0, _, _ => rfl
  | n + 1, j, c => by unfold tJ; rw [tJ_len x b i n, tS_len]
theorem tI_len (a b : List Nat) : ∀ n i c, (tI a b n i c).length = c.length
  | 0, _, _ => rfl
  | n + 1, i, c => by unfold tI; rw [tI_len a b n, tJ_len]
theorem timesL_len (a b : List Nat) : (timesL a b).length = a.length + b.length := by unfold timesL; rw [tI_len]; simp
theorem set_lt {c : List Nat} {t v B : Nat} (h : ∀ x ∈ c, x < B) (hv : v < B) : ∀ x ∈ c.set t v, x < B := by
  intro x hx
  rcases List.mem_or_eq_of_mem_set hx with h1 | h1
  · exact h x h1
  · omega
theorem tS_lt {c : List Nat} (x y t : Nat) (h : ∀ x ∈ c, x < 18446744073709551616) : ∀ z ∈ tS c x y t, z < 18446744073709551616 := by
  unfold tS
  exact set_lt (set_lt (set_lt h (by omega)) (by omega)) (by omega)
theorem tJ_lt (x : Nat) (b : List Nat) (i : Nat) : ∀ n j c, (∀ z ∈ c, z < 18446744073709551616) → ∀ z ∈ tJ x b i n j c, z < 18446744073709551616
  | 0, _, _, h => h
  | n + 1, j, c, h => by unfold tJ; exact tJ_lt x b i n _ _ (tS_lt _ _ _ h)
theorem tI_lt (a b : List Nat) : ∀ n i c, (∀ z ∈ c, z < 18446744073709551616) → ∀ z ∈ tI a b n i c, z < 18446744073709551616
  | 0, _, _, h => h
  | n + 1, i, c, h => by unfold tI; exact tI_lt a b n _ _ (tJ_lt _ _ _ _ _ _ h)
theorem timesL_lt (a b : List Nat) : ∀ z ∈ timesL a b, z < 18446744073709551616 := tI_lt a b _ _ _ (fun z hz => by rw [(List.mem_replicate.1 hz).2]; decide)
end Go.Proofs.YtpomkljgjihogaaDoor
