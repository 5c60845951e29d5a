package impl

import (
	"math/bits"
	"slices"
	"strconv"
	"strings"
)

const LimbBase = 65536
const MaxLimbs = 40

// Decimal digits are made in groups, since a group and a limb together still fit an int.
const groupDigits = 9
const groupBase = 1000000000

const limbBits = 16
const limbMask = LimbBase - 1
const farthestInt = 1 << 62

// The bit at which each limb of an int begins; intBits is where a further one would.
const (
	firstLimbAt = limbBits * iota
	secondLimbAt
	thirdLimbAt
	fourthLimbAt
	intBits
)

type Big struct {
	Neg   bool
	Limbs []int
}

func GoodBig(a Big) bool {
	n := len(a.Limbs)
	if n > MaxLimbs {
		return false
	}
	for _, limb := range a.Limbs {
		if limb < 0 || limb >= LimbBase {
			return false
		}
	}
	if n == 0 {
		return !a.Neg
	}
	return a.Limbs[n-1] != 0
}

func BigOf(n int) Big {
	// Unsigned, since the least int has no int on the other side of 0.
	far := uint64(n)
	if n < 0 {
		far = -far
	}
	limbs := []int{
		int(far >> firstLimbAt & limbMask),
		int(far >> secondLimbAt & limbMask),
		int(far >> thirdLimbAt & limbMask),
		int(far >> fourthLimbAt & limbMask),
	}
	return withSign(n < 0, limbs)
}

func IntOf(a Big) (int, bool) {
	if !GoodBig(a) || len(a.Limbs)*limbBits > intBits {
		return 0, false
	}
	far := uint64(0)
	for i, limb := range a.Limbs {
		far |= uint64(limb) << (i * limbBits)
	}
	if far > farthestInt {
		return 0, false
	}
	if a.Neg {
		return -int(far), true
	}
	return int(far), true
}

func CompareBig(a Big, b Big) (int, bool) {
	if !goodPair(a, b) {
		return 0, false
	}
	return compareSigned(a, b), true
}

func AddBig(a Big, b Big) (Big, bool) {
	if !goodPair(a, b) {
		return Big{}, false
	}
	return fitting(addSigned(a, b))
}

func SubBig(a Big, b Big) (Big, bool) {
	if !goodPair(a, b) {
		return Big{}, false
	}
	return fitting(subSigned(a, b))
}

func MulBig(a Big, b Big) (Big, bool) {
	if !goodPair(a, b) {
		return Big{}, false
	}
	return fitting(mulSigned(a, b))
}

func HalvesMul(a Big, b Big) (Big, bool) {
	if !goodPair(a, b) {
		return Big{}, false
	}
	return fitting(withSign(a.Neg != b.Neg, mulByHalves(a.Limbs, b.Limbs)))
}

func DivBig(a Big, b Big) (Big, Big, bool) {
	if !goodPair(a, b) || len(b.Limbs) == 0 {
		return Big{}, Big{}, false
	}
	quotient, rest := divLimbs(a.Limbs, b.Limbs)
	return withSign(a.Neg != b.Neg, quotient), withSign(a.Neg, rest), true
}

func GcdBig(a Big, b Big) (Big, bool) {
	if !goodPair(a, b) {
		return Big{}, false
	}
	return withSign(false, gcdLimbs(a.Limbs, b.Limbs)), true
}

func BigText(a Big) (string, bool) {
	if !GoodBig(a) {
		return "", false
	}
	return textOfBig(a), true
}

func ReadBig(s string) (Big, bool) {
	digits := strings.TrimPrefix(s, "-")
	limbs := []int{}
	at := 0
	if digits == "" {
		goto refused
	}
	// The text `0` alone may begin with a nought; so `-0` is refused, too.
	if digits[0] == '0' && len(s) > 1 {
		goto refused
	}
next:
	if at == len(digits) {
		return withSign(len(digits) < len(s), limbs), true
	}
	if digits[at] < '0' || digits[at] > '9' {
		goto refused
	}
	limbs = putDigit(limbs, int(digits[at]-'0'))
	at++
	// Asked at each digit, so that a long text is given up early.
	if len(limbs) <= MaxLimbs {
		goto next
	}
refused:
	return Big{}, false
}

func goodPair(a Big, b Big) bool {
	return GoodBig(a) && GoodBig(b)
}

// withSign keeps the memory of limbs: they must be new.
func withSign(neg bool, limbs []int) Big {
	limbs = trimLimbs(limbs)
	return Big{Neg: neg && len(limbs) > 0, Limbs: limbs}
}

func fitting(a Big) (Big, bool) {
	if len(a.Limbs) > MaxLimbs {
		return Big{}, false
	}
	return a, true
}

func compareSigned(a Big, b Big) int {
	if a.Neg != b.Neg {
		if a.Neg {
			return -1
		}
		return 1
	}
	if a.Neg {
		return compareLimbs(b.Limbs, a.Limbs)
	}
	return compareLimbs(a.Limbs, b.Limbs)
}

func addSigned(a Big, b Big) Big {
	if a.Neg == b.Neg {
		return withSign(a.Neg, addLimbs(a.Limbs, b.Limbs))
	}
	if compareLimbs(a.Limbs, b.Limbs) < 0 {
		return withSign(b.Neg, subLimbs(b.Limbs, a.Limbs))
	}
	return withSign(a.Neg, subLimbs(a.Limbs, b.Limbs))
}

func subSigned(a Big, b Big) Big {
	return addSigned(a, Big{Neg: !b.Neg, Limbs: b.Limbs})
}

func mulSigned(a Big, b Big) Big {
	return withSign(a.Neg != b.Neg, mulLimbs(a.Limbs, b.Limbs))
}

// trimLimbs leaves out noughts at the end; it cuts the capacity, too, so that none of them is handed out.
func trimLimbs(l []int) []int {
	n := len(l)
	for n > 0 && l[n-1] == 0 {
		n--
	}
	if n == 0 {
		return nil
	}
	return l[:n:n]
}

func compareLimbs(a []int, b []int) int {
	if len(a) < len(b) {
		return -1
	}
	if len(a) > len(b) {
		return 1
	}
	for i := len(a) - 1; i >= 0; i-- {
		if a[i] < b[i] {
			return -1
		}
		if a[i] > b[i] {
			return 1
		}
	}
	return 0
}

func addLimbs(a []int, b []int) []int {
	if len(a) < len(b) {
		a, b = b, a
	}
	sum := make([]int, len(a)+1)
	carry := 0
	for i, limb := range a {
		carry += limb
		if i < len(b) {
			carry += b[i]
		}
		sum[i] = carry & limbMask
		carry >>= limbBits
	}
	sum[len(a)] = carry
	return trimLimbs(sum)
}

// subLimbs wants b to be at most a.
func subLimbs(a []int, b []int) []int {
	left := slices.Clone(a)
	carry := 0
	for i, limb := range left {
		carry += limb
		if i < len(b) {
			carry -= b[i]
		}
		left[i] = carry & limbMask
		carry >>= limbBits
	}
	return trimLimbs(left)
}

func mulLimbs(a []int, b []int) []int {
	product := make([]int, len(a)+len(b))
	for i, limb := range a {
		carry := 0
		for j, other := range b {
			carry += product[i+j] + limb*other
			product[i+j] = carry & limbMask
			carry >>= limbBits
		}
		product[i+len(b)] = carry
	}
	return trimLimbs(product)
}

// mulByHalves ends: the sums of the parts of 3 limbs may have 3 again, but then the upper ones are 0 and 1, and the next sums have 2.
func mulByHalves(a []int, b []int) []int {
	n := max(len(a), len(b))
	if n <= 2 {
		return mulLimbs(a, b)
	}
	h := n / 2
	aLow, aHigh := partsOf(a, h)
	bLow, bHigh := partsOf(b, h)
	low := mulByHalves(aLow, bLow)
	high := mulByHalves(aHigh, bHigh)
	both := mulByHalves(addLimbs(aLow, aHigh), addLimbs(bLow, bHigh))
	mid := subLimbs(subLimbs(both, low), high)
	return addLimbs(low, addLimbs(shiftLimbs(mid, h), shiftLimbs(high, 2*h)))
}

// partsOf hands out pieces of l itself: they are only read.
func partsOf(l []int, h int) ([]int, []int) {
	h = min(h, len(l))
	return trimLimbs(l[:h]), l[h:]
}

func shiftLimbs(l []int, by int) []int {
	return append(make([]int, by, by+len(l)), l...)
}

// divLimbs wants b not to be 0; its answers are new, and share nothing.
func divLimbs(a []int, b []int) ([]int, []int) {
	if compareLimbs(a, b) < 0 {
		return nil, slices.Clone(a)
	}
	if len(b) == 1 {
		quotient, rest := divByInt(a, b[0])
		return quotient, trimLimbs([]int{rest})
	}
	return divLong(a, b)
}

// divByInt takes a divisor of at most groupBase, so that what is left and a limb fit an int.
func divByInt(a []int, by int) ([]int, int) {
	quotient := make([]int, len(a))
	rest := 0
	for i := len(a) - 1; i >= 0; i-- {
		rest = rest<<limbBits | a[i]
		quotient[i] = rest / by
		rest %= by
	}
	return trimLimbs(quotient), rest
}

// divLong wants b to have 2 limbs at least, and not more than a. Both are shifted until b's last limb is at least half of LimbBase: only then are the guesses near.
func divLong(a []int, b []int) ([]int, []int) {
	shift := limbBits - bits.Len(uint(b[len(b)-1]))
	rest := shiftUp(a, shift)
	by := trimLimbs(shiftUp(b, shift))
	quotient := make([]int, len(a)-len(b)+1)
	for i := len(quotient) - 1; i >= 0; i-- {
		quotient[i] = takeDigit(rest[i:i+len(by)+1], by)
	}
	return trimLimbs(quotient), shiftDown(rest, shift)
}

// takeDigit leaves in part what is left of it, and answers how often by was in it.
func takeDigit(part []int, by []int) int {
	digit := guessDigit(part, by)
	if takeTimes(part, by, digit) {
		addBack(part, by)
		digit--
	}
	return digit
}

// guessDigit looks at the uppermost limbs alone: what it answers is right, or one too great.
func guessDigit(part []int, by []int) int {
	n := len(by)
	top := part[n]<<limbBits | part[n-1]
	digit := top / by[n-1]
	left := top % by[n-1]
	for digit >= LimbBase || digit*by[n-2] > left<<limbBits|part[n-2] {
		digit--
		left += by[n-1]
	}
	return digit
}

// takeTimes tells whether the difference is below 0: part then stands as if the limb above it had lent one.
func takeTimes(part []int, by []int, digit int) bool {
	carry := 0
	for i, limb := range by {
		carry += part[i] - digit*limb
		part[i] = carry & limbMask
		carry >>= limbBits
	}
	carry += part[len(by)]
	part[len(by)] = carry & limbMask
	return carry < 0
}

func addBack(part []int, by []int) {
	carry := 0
	for i, limb := range by {
		carry += part[i] + limb
		part[i] = carry & limbMask
		carry >>= limbBits
	}
	// What is carried beyond gives back the one that was lent.
	part[len(by)] = (part[len(by)] + carry) & limbMask
}

// shiftUp answers one limb more than it is given, needed or not.
func shiftUp(l []int, by int) []int {
	shifted := make([]int, len(l)+1)
	carry := 0
	for i, limb := range l {
		carry |= limb << by
		shifted[i] = carry & limbMask
		carry >>= limbBits
	}
	shifted[len(l)] = carry
	return shifted
}

func shiftDown(l []int, by int) []int {
	shifted := make([]int, len(l))
	above := 0
	for i := len(l) - 1; i >= 0; i-- {
		pair := above<<limbBits | l[i]
		shifted[i] = pair >> by & limbMask
		above = l[i]
	}
	return trimLimbs(shifted)
}

func gcdLimbs(a []int, b []int) []int {
	for len(b) > 0 {
		_, rest := divLimbs(a, b)
		a, b = b, rest
	}
	return slices.Clone(a)
}

func textOfBig(a Big) string {
	if a.Neg {
		return "-" + digitsOf(a.Limbs)
	}
	return digitsOf(a.Limbs)
}

func digitsOf(limbs []int) string {
	if len(limbs) == 0 {
		return "0"
	}
	text := ""
	for len(limbs) > 0 {
		var group int
		limbs, group = divByInt(limbs, groupBase)
		digits := strconv.Itoa(group)
		if len(limbs) > 0 {
			digits = strings.Repeat("0", groupDigits-len(digits)) + digits
		}
		text = digits + text
	}
	return text
}

// putDigit writes into limbs: they must be the caller's own.
func putDigit(limbs []int, digit int) []int {
	carry := digit
	for i, limb := range limbs {
		carry += limb * 10
		limbs[i] = carry & limbMask
		carry >>= limbBits
	}
	if carry > 0 {
		limbs = append(limbs, carry)
	}
	return limbs
}
