package dual

import (
	"crypto/elliptic"
	"crypto/sha256"
	"math/big"
	"math/rand"
	"slices"
	"strconv"
	"strings"
	"sync"
	"testing"

	"curvet/affine"
	"curvet/api"
	"curvet/base"
	"curvet/mult"
	"curvet/proj"
)

func infinity() api.Point {
	return api.Point{Inf: true}
}

func numbers(list ...int64) []*big.Int {
	var all []*big.Int
	for _, x := range list {
		all = append(all, big.NewInt(x))
	}
	return all
}

// checkMul asks for u G + v s.
func checkMul(t *testing.T, m model, u *big.Int, v *big.Int, s *spot, want *spot) {
	t.Helper()
	if got := answer(t, m, u, v, s); got != want.point() {
		t.Fatalf("curve %d: %x, %x times %v: %v, not %v", m.id, u, v, s.point(), got, want.point())
	}
}

// answer is what a Mul answers that has to succeed.
func answer(t *testing.T, m model, u *big.Int, v *big.Int, s *spot) api.Point {
	t.Helper()
	got, errno := Mul(m.id, natOf(u), natOf(v), s.point())
	if errno != api.OK {
		t.Fatalf("curve %d: %x, %x times %v: error %d", m.id, u, v, s.point(), errno)
	}
	return got
}

// P20.1: the tiny curves

const strands = 3

// eachTiny runs a test for each tiny curve, with all its points, each at the
// place that tells how often it is G. It runs in strands, at one time.
func eachTiny(t *testing.T, test func(t *testing.T, m model, all []*spot, strand int)) {
	t.Helper()
	t.Parallel()
	for _, m := range tinyModels() {
		all := m.walk()
		if m.n.Cmp(big.NewInt(int64(len(all)))) != 0 {
			t.Fatalf("curve %d: %d points", m.id, len(all))
		}
		for strand := range strands {
			t.Run(strconv.Itoa(m.id)+"/"+strconv.Itoa(strand), func(t *testing.T) {
				t.Parallel()
				test(t, m, all, strand)
			})
		}
	}
}

// checkPlaces asks for u G + v q, where q is the point at a place.
func checkPlaces(t *testing.T, m model, all []*spot, u int, v int, q int) {
	t.Helper()
	got, errno := Mul(m.id, small(u), small(v), all[q].point())
	if want := all[(u+v*q)%len(all)]; got != want.point() || errno != api.OK {
		t.Fatalf("curve %d: %d, %d times %d G: %v, %d; not %v", m.id, u, v, q, got, errno, want.point())
	}
}

func TestTinyDrawn(t *testing.T) {
	eachTiny(t, func(t *testing.T, m model, all []*spot, strand int) {
		r, n := rand.New(rand.NewSource(int64(strand))), len(all)
		for range 4000 {
			checkPlaces(t, m, all, r.Intn(n), r.Intn(n), r.Intn(n))
		}
	})
}

// TestTinyEdges: edges of two of the three, with all of the third.
func TestTinyEdges(t *testing.T) {
	eachTiny(t, func(t *testing.T, m model, all []*spot, strand int) {
		n := len(all)
		edges := []int{0, 1, 15, n - 1}
		for third := strand; third < n; third += strands {
			for _, one := range edges {
				for _, two := range edges {
					checkPlaces(t, m, all, one, two, third)
					checkPlaces(t, m, all, one, third, two)
					checkPlaces(t, m, all, third, one, two)
				}
			}
		}
	})
}

// TestTinyJustThePoints: of all pairs of bytes just the points are taken.
func TestTinyJustThePoints(t *testing.T) {
	t.Parallel()
	for _, m := range tinyModels() {
		taken := 0
		for a := range 256 {
			for b := range 256 {
				p := api.Point{X: small(a), Y: small(b)}
				if m.on(p) {
					checkMul(t, m, big.NewInt(0), big.NewInt(1), spotOf(p), spotOf(p))
					taken++
				} else {
					checkNone(t, m.id, small(0), small(1), p, api.ErrDualPoint)
				}
				if p.Inf = true; a+b > 0 {
					checkNone(t, m.id, small(0), small(1), p, api.ErrDualPoint)
				}
			}
		}
		if m.n.Cmp(big.NewInt(int64(taken+1))) != 0 {
			t.Errorf("curve %d: %d points", m.id, taken)
		}
	}
}

// TestTinyJustTheNumbers: of all numbers around N just those below it are taken,
// on each side.
func TestTinyJustTheNumbers(t *testing.T) {
	t.Parallel()
	for _, m := range tinyModels() {
		all := m.walk()
		for d := range 1100 {
			if d < len(all) {
				checkPlaces(t, m, all, d, 1, 2)
				checkPlaces(t, m, all, 1, d, 2)
				continue
			}
			for _, s := range []*spot{m.base(), nil} {
				checkNone(t, m.id, small(d), small(1), s.point(), api.ErrDualRange)
				checkNone(t, m.id, small(1), small(d), s.point(), api.ErrDualRange)
			}
		}
	}
}

// P20.1: all curves

// scalars are the edges, and two drawn numbers, one of any length.
func (m model) scalars(r *rand.Rand) []*big.Int {
	drawn := new(big.Int).Rsh(m.below(r), uint(r.Intn(m.n.BitLen())))
	return append(numbers(0, 1, 2, 15, 16, 17), less(m.n, 2), less(m.n, 1), m.below(r), drawn)
}

func TestSums(t *testing.T) {
	eachCurve(t, func(t *testing.T, m model, r *rand.Rand) {
		us, vs := m.scalars(r), m.scalars(r)
		var byG []*spot
		for _, u := range us {
			byG = append(byG, m.times(u, m.base()))
		}
		for _, s := range []*spot{nil, m.base(), m.neg(m.base()), m.drawn(r), m.drawn(r)} {
			for _, v := range vs {
				byS := m.times(v, s)
				for i, u := range us {
					checkMul(t, m, u, v, s, m.add(byG[i], byS))
				}
			}
		}
	})
}

// TestByName: what needs no model.
func TestByName(t *testing.T) {
	eachCurve(t, func(t *testing.T, m model, r *rand.Rand) {
		none, once, last := big.NewInt(0), big.NewInt(1), less(m.n, 1)
		for _, s := range []*spot{nil, m.base(), m.neg(m.base()), m.drawn(r)} {
			checkMul(t, m, none, none, s, nil)
			checkMul(t, m, none, once, s, s)
			checkMul(t, m, none, last, s, m.neg(s))
			checkMul(t, m, once, none, s, m.base())
			checkMul(t, m, last, none, s, m.neg(m.base()))
		}
		checkMul(t, m, once, m.above(r), nil, m.base())
		checkMul(t, m, once, last, m.base(), nil)
		checkMul(t, m, last, once, m.base(), nil)
		checkMul(t, m, once, once, m.neg(m.base()), nil)
	})
}

// TestOneDigitEach: with noughts on both sides, at one place and at unlike ones.
func TestOneDigitEach(t *testing.T) {
	eachCurve(t, func(t *testing.T, m model, r *rand.Rand) {
		s, count := m.drawn(r), m.n.BitLen()/4
		for i := range count {
			j := []int{i, r.Intn(count)}[r.Intn(2)]
			u := new(big.Int).Lsh(big.NewInt(int64(1+r.Intn(7))), uint(4*i))
			v := new(big.Int).Lsh(big.NewInt(int64(1+r.Intn(7))), uint(4*j))
			checkMul(t, m, u, v, s, m.want(u, v, s))
		}
	})
}

// TestLikeDigits: one digit of u at every place but the highest, and one of v.
func TestLikeDigits(t *testing.T) {
	eachCurve(t, func(t *testing.T, m model, r *rand.Rand) {
		s, ones := m.drawn(r), new(big.Int)
		for range (m.n.BitLen()+3)/4 - 1 {
			ones.Lsh(ones, 4).Or(ones, big.NewInt(1))
		}
		for digit := range int64(16) {
			for _, other := range []int64{digit, 15 - digit, 5 * digit % 16} {
				u, v := new(big.Int).Mul(ones, big.NewInt(digit)), new(big.Int).Mul(ones, big.NewInt(other))
				checkMul(t, m, u, v, s, m.want(u, v, s))
			}
		}
	})
}

// multiples are numbers that make points near to G: on the way to a sum like
// points, opposites and infinity are met.
func (m model) multiples(r *rand.Rand) []*big.Int {
	list := append(numbers(0, 1, 2, 3, 4, 16), m.above(r))
	for _, k := range numbers(2, 3, 16) {
		list = append(list, new(big.Int).ModInverse(k, m.n))
	}
	for _, k := range slices.Clone(list[1:]) {
		list = append(list, m.opposite(k))
	}
	return list
}

// TestSameAndOpposite: u G and v q are the same point, or opposites.
func TestSameAndOpposite(t *testing.T) {
	eachCurve(t, func(t *testing.T, m model, r *rand.Rand) {
		for _, k := range m.multiples(r) {
			s := m.times(k, m.base())
			for _, v := range []*big.Int{big.NewInt(1), less(m.n, 1), m.above(r)} {
				u := m.modulo(new(big.Int).Mul(v, k))
				byG := m.times(u, m.base())
				checkMul(t, m, u, v, s, m.add(byG, byG))
				checkMul(t, m, m.opposite(u), v, s, nil)
			}
		}
	})
}

// TestNearToG: q is near to G, and the numbers are like ones and opposites.
func TestNearToG(t *testing.T) {
	eachCurve(t, func(t *testing.T, m model, r *rand.Rand) {
		for _, k := range m.multiples(r) {
			s, v := m.times(k, m.base()), m.below(r)
			for _, u := range []*big.Int{v, m.opposite(v)} {
				checkMul(t, m, u, v, s, m.want(u, v, s))
			}
		}
	})
}

// TestXOfNought: where there is a point with an X of 0 it is a point like others,
// not infinity, as q and as the answer.
func TestXOfNought(t *testing.T) {
	t.Parallel()
	found, r := 0, rand.New(rand.NewSource(20))
	for _, m := range models() {
		y := new(big.Int).ModSqrt(m.b, m.p)
		if y == nil {
			continue
		}
		found++
		s := &spot{new(big.Int), y}
		for _, s := range []*spot{s, m.neg(s)} {
			for _, v := range append(numbers(0, 1, 2), less(m.n, 1), m.below(r)) {
				u := m.below(r)
				checkMul(t, m, u, v, s, m.want(u, v, s))
				checkMul(t, m, big.NewInt(0), v, s, m.times(v, s))
			}
		}
		u, v := m.below(r), m.above(r)
		q := m.times(new(big.Int).ModInverse(v, m.n), m.add(s, m.neg(m.times(u, m.base()))))
		checkMul(t, m, u, v, q, s)
	}
	if found < 2 {
		t.Errorf("%d curves have a point with an X of 0", found)
	}
}

// TestSumsOfSums: (u + w) G + (v + x) q is the sum of the two, and the opposites
// of both numbers give the opposite point.
func TestSumsOfSums(t *testing.T) {
	eachCurve(t, func(t *testing.T, m model, r *rand.Rand) {
		for _, s := range []*spot{m.drawn(r), m.base(), nil} {
			u, v, w, x := m.below(r), m.below(r), m.below(r), m.below(r)
			one := spotOf(answer(t, m, u, v, s))
			two := spotOf(answer(t, m, w, x, s))
			checkMul(t, m, m.modulo(new(big.Int).Add(u, w)), m.modulo(new(big.Int).Add(v, x)), s, m.add(one, two))
			checkMul(t, m, m.opposite(u), m.opposite(v), s, m.neg(one))
			checkMul(t, m, u, m.opposite(v), m.neg(s), one)
		}
	})
}

// P20.1: as other layers

// TestAsLayers18And19: with a u of 0 it is layer 18's product of q, with a v of 0
// layer 19's.
func TestAsLayers18And19(t *testing.T) {
	eachCurve(t, func(t *testing.T, m model, r *rand.Rand) {
		for _, s := range []*spot{nil, m.base(), m.neg(m.base()), m.drawn(r)} {
			for _, d := range m.scalars(r) {
				want, errno := mult.Mul(nil, m.id, natOf(d), s.point())
				if got := answer(t, m, big.NewInt(0), d, s); got != want || errno != api.OK {
					t.Fatalf("%x times %v: %v, not %v, %d", d, s.point(), got, want, errno)
				}
				want, errno = base.Mul(nil, m.id, natOf(d))
				if got := answer(t, m, d, big.NewInt(0), s); got != want || errno != api.OK {
					t.Fatalf("%x, beside %v: %v, not %v, %d", d, s.point(), got, want, errno)
				}
			}
		}
	})
}

// TestAsLayer14: the sum of its two products.
func TestAsLayer14(t *testing.T) {
	eachCurve(t, func(t *testing.T, m model, r *rand.Rand) {
		for _, s := range []*spot{nil, m.base(), m.neg(m.base()), m.drawn(r)} {
			u, v := m.below(r), m.below(r)
			byG, _ := affine.Mul(m.id, natOf(u), m.base().point())
			byS, _ := affine.Mul(m.id, natOf(v), s.point())
			want, errno := affine.Add(m.id, byG, byS)
			if got := answer(t, m, u, v, s); got != want || errno != api.OK {
				t.Fatalf("%x, %x times %v: %v, not %v, %d", u, v, s.point(), got, want, errno)
			}
		}
	})
}

// P20.1: as other programs

// TestAgainstTheLibrary: Go's own curves go another way to products.
func TestAgainstTheLibrary(t *testing.T) {
	t.Parallel()
	for id, c := range map[int]elliptic.Curve{
		api.CurveP224: elliptic.P224(), api.CurveP256: elliptic.P256(), api.CurveP384: elliptic.P384(), api.CurveP521: elliptic.P521(),
	} {
		m, r := models()[id-1], rand.New(rand.NewSource(int64(id)))
		for range 8 {
			s, u, v := m.drawn(r), m.above(r), m.above(r)
			gx, gy := c.ScalarBaseMult(u.Bytes())
			sx, sy := c.ScalarMult(s.x, s.y, v.Bytes())
			x, y := c.Add(gx, gy, sx, sy)
			checkMul(t, m, u, v, s, &spot{x, y})
		}
	}
}

// TestAgainstOpenSSL: u, v, q and u G + v q, as EC_POINT_mul of OpenSSL 3.0 told
// them, a line for each of the twelve curves in the order of their numbers.
func TestAgainstOpenSSL(t *testing.T) {
	t.Parallel()
	lines := strings.Split(strings.TrimSpace(openSSL), "\n")
	if len(lines) != api.CurveB512 {
		t.Fatalf("%d lines", len(lines))
	}
	for i, line := range lines {
		part := strings.Fields(line)
		q, want := &spot{digits(part[2]), digits(part[3])}, &spot{digits(part[4]), digits(part[5])}
		checkMul(t, models()[i], digits(part[0]), digits(part[1]), q, want)
	}
}

const openSSL = `
d96e5adfa2beee31ac8be7d742840d2b26b563b1e794ee14 e7ca430e92ac3d4253d23c0bdf43efb219fcfc64e7aa8576 67cdb5bcd6c25ca05a2a5ae3640996810a84d0e3efd3907b 7ba9e084097494edd6091afd28c6d244e2f670511bf415ec b47dba9ea0f8394bba8cc06139be12b5c713e3b173c89c2f ac5d7944e8891693846fb57ed758a3240d6c6110196316ea
6977a41b730bed9c94a67f00f335c3577972a36d51b31a6c20050ed3 55e7d67eae6ac4a9e89c5bc7a0187b4d51209e8f332726d0356a4152 3feb959f51c432d070a71da5bd2de9628b9170d8d4483b1740b59fd5 846ed95e7c221a676ce9030310363230b3e2874ed773f8accabe4f1e 6b6c90684a518f7de753a82b5b45abf6e3f0397ba442bd03e169de86 1780bd20b54a2857d93fb5717165da255004b9de01b1664ee3e4f3c
1832c9e233aa391808fc20813e1dcfb592bde31c34d2ea1614daf46767a9b05c b0b4362e4e18a3634891a61bc3b1b366b1852ac840e0529930b9f6091570bc62 4b01e76058955618c377ecc116ade9267112ccc390e0e6256997f271716a932d e38f9086fb972c078866b84d9c34dd07fa955997b813351e5cc63d96a000fce3 4809504ba6b4e6a12109fafe2016c417852523134af8f30bf1b63c598edecc4c 9d8d8b2e6eb36ca32e8d16ea5c92bff9e7070a57e1f30187bc3201537622e7a0
a5998165b1dd1b80230a102c4786a2284cfdb1e79e1fcc46a5157170cc8fc5260352a9bf0e56d5813cd158af92ed2607 6ed299e4d532b79f8e41a78f4617edaaa37feba2ec246343272be0eae810b08a72880e4ab8a6acd69988235655fac783 1729b53d4ced815da98bf8d14636ad91b8bf35cebc243bda6284118ba67f39babcd4bbce5ca05a12a35e8d53f8f4f8df b67d9c31803365b3f3a00dec5f5a2519873029a4ee3bf375caee40f8158994027a5928db6f249cbf7532344e95fe8709 6491528c176f7d7dd10779a1e3f916e4ab467128cc1b0d31648deae0a4021fac7de108568e0b6356087e193dd4a04fe2 a067176852c6ea1bdbbde10840c0ff68adfbbe0f895cc117c590c997a43a7d0e2d01c3c67474758f31fcea5770706fd2
14dcf5d777f00830f1b4b216f91e25bd3abc8b050241d6597e214bc028ad6e8541a2c1d8f47fe1d515b2c1d87286fba579b31826e0a84fd2ec50d44edc59b914a48 1e01e177c0b2a0227c8aad71c97d5f8822f0dea8095b9b8a314c34e9d45c1aa598c87c4ebf175187d21f3d9680166efbf7cbad32fc0ac19c0e850b94098cc61175d bc18a1c213f7222fea20e48f2446961504e7bdb8efed2ef45019dae9d3286d34fd9a2b3d317f22818d16e4fc736209dc658e2600dedf008a76e0b4c101a1a74fc5 1b04413883f126d921d4381d7d8a91e3d3fd86d03519fadd2fa62b41dacb4ce146eb69127aae13b294bd8ba85d01cfa69665758c705fe4c77377d0031464609f952 196a43a2f7c396503c4e25e999bf116e84121ec661d10525bf49470981c7d1abe682c4289efafc2992d2122ebc01e21acdbeb21d09c779c26764a7d3ff2f0d6f39e 15fafbd49d2766eb2bf3bb5d65221b574d2a94cb9dc8feb07aa9d40d8d0a01a2753e3b80d123e510af5d807e401fd4b35a7a234c32b2d0284452eb86d358c3a7613
c7f99687a98b1a93f4c926dd15febbe2a487c24241df2a8155311d2417e00e58 835c8065383a102d31c43b4006f2f0d0c9a20e340b589fd6a9e493f04d0eec27 ae97d6c59f6f5a2ddbc080c96ddde8223b77d5a91532bb6515f09ec6d139efdf 8eb66f379d3ec78134d3107b635bef0c00645eb83784213b0289307cde646524 ce8f6f67c7aab914ecead4aba77572569060a81e622770879ecc257d6246ea7a 6284770f0648b9e8a3d33ac652f420c2f8ea97afe096836de9ee4728fc5d5bbf
e570d89a86fd07efbea74ba7aaa47956ecf07bda 2043d6bbdff83c264fe559a1e454625d2297ee54 5de4e76bfee62742e65eb75f64ef44df3eda13 777844a00bf72470492825e8ab355b7ff95ec37a 6281a9bd4ab1ffc7260f65a5b25a8c024fc897f7 4639c7e90839c5d14a424949860ef98e0c079551
8e15ed4e20188f424d29c46d18e2cd3639f4faf9dbf269b33291aa39 7cc4b46e72d21f0b152e9ea1a5e1509a23b49669e2dc965863c71fc5 bef37d54211c60b737bb4df918326dfb5d19a9b3759928c5fcff12c2 6fef841848d6bfb777606d5e54462cf46487e74dfd87ebfc2644c683 3c37335887916ed3ffa842f134ee64da1912bf06750ef93757e54b1c 5fbe2591c344547d626d4d3c357a3570490b1bd4045999fe2758fbf9
fd1d03246b6a6f2013e1fc41942eec2b9bfc89ead2c509c24d2c1994c583297 7823f9b393e0d660110d547d1970860acf68d5547667ae45e6cc3cf3d6408279 23a6c14b7ba864bc8b55d59e0902d6959f539775ebe99e8e746b991da85db3ce 7ca5508e63ff5fb382de411cb9795a0548f6682db160e38a56932dbef51e7285 789450a8c08abc9e39845ae0683c98fbf8f4a25ca5d9c982c93d68aeff091c25 65f88e923e7081ff02165a79cd165e35eeeb2e9ea7295ef2015b23f2589bed56
9bf3d9644b445f73471114092dd05a7a03f91068b6ff1e16573fb719f779a6f59f5adf108c0cf1c2 34fbd0a1bfed0fec3618aac90a8e824efc0af9abfb468f75009faaba19922763f76465ccd8921156 9ef5057153727f5450398194ccc34e1ac29ab20cf832faea4136f67a9871ee45a61b368aca09df91 411c4215d29d41f62a460be22aba8e84835bd295dbad00800551d57b1c554629c6b61ac35ef15b76 2135923fd996e8a639ea203fea7b750b84df3f2b56899509c9aef505e2e49f6dc03c79f7cda6c980 17f0de64c799a770f11763db8f0d1cf380d323673a2695b988c6ec81e595d0858c77110aef218bf9
64e0dbbb65b670f58ffefe4edba6a3b6e63e7646603e5f7e9f6dbc56e16c3ec623401fa4a7b0d9becf6040f10cc4fc28 3aed4bf451b38f037df40652df0e26d094fb05481779ef9975794271ed2bf943c7677920ccf928a200eef70a411e1809 60050e35eadfca2dad7b7a944e35cc0f401f28919f58509b0eccfbe6ecc2043884817f049971fafc607ae8e395d33b9d 54f17ddc5b42f9d9ec6dafaebc81020ee71eac3c2448236dd2085996b8277cadd9ba4263f73fcffbbe2ccb2a67d565be 1119e2f4a4a5bb920bf94f3edf6443c9645b3efadc3070b2934ce4b886608562b12a9586ad3f38e2260acb0ab3b23f96 5ccd7cca8d0fe8e01e04db67147ef94dc419753677e4520463c60dc258c4243546f40d7eaa3d09cd9ef6404370720564
44c6ec027e4ca11fa77bb959154c30a8c57d5e48c39fb0509ee34e704be78917fe23ab59b7047f2da624ee1f9bec75a4818373634a65c156e8a3cb71b3c2d892 44a567f0bf1b87791f8c123ac0978c30eab0339389f5302aafc0cb32aeb7a344b87845e7b3ffbd58beec9592a39c09ed243228c88fae2ae1e724c159a0e7c95b 517ede994ba7e42ceb0395615176f08e9dd519b1f4f228d325f97e23a37cdcca8e81553788dfc504af68edfa7fcdfe880ac9aa8b8a9878966a0a070ea3e67411 451ead4b9b99cf5052a27eee0e036c5b8d6b66df0cd11f218c2da9f1003541117907c259bc2b1ea765ef151b972b52602c89db61f255205cea9922c29e0a2936 24edecd9be7efa70c7a33cfe559d22bc989d220e1e9eacd7d03052fd094754b252dcb02be5e7b292de251ff9710b713e51c8edb18676915a06cbd70e559de527 6f90f472fac8339c180cc976d5e3ac15bfb8ea91b16dc557ec9202a5ac7c4075a75d1ff220347e0fadd515d1469fbeb904ffbbf3223cb76f838ae633c7bba545
`

// TestPublishedSignatures: of the signatures of RFC 6979 (A.2.4 to A.2.7, with
// SHA-256) the equation holds that makes them right: X of the sum is R modulo N.
func TestPublishedSignatures(t *testing.T) {
	t.Parallel()
	for _, c := range []struct {
		id                  int
		x, y, message, r, s string
	}{
		{
			api.CurveP224, "00cf08da5ad719e42707fa431292dea11244d64fc51610d94b130d6c", "eeab6f3debe455e3dbf85416f7030cbd94f34f2d6f232c69f3c1385a", "sample",
			"61aa3da010e8e8406c656bc477a7a7189895e7e840cdfe8ff42307ba", "bc814050dab5d23770879494f9e0a680dc1af7161991bde692b10101",
		},
		{
			api.CurveP224, "00cf08da5ad719e42707fa431292dea11244d64fc51610d94b130d6c", "eeab6f3debe455e3dbf85416f7030cbd94f34f2d6f232c69f3c1385a", "test",
			"ad04dde87b84747a243a631ea47a1ba6d1faa059149ad2440de6fba6", "178d49b1ae90e3d8b629be3db5683915f4e8c99fdf6e666cf37adcfd",
		},
		{
			api.CurveP256, "60fed4ba255a9d31c961eb74c6356d68c049b8923b61fa6ce669622e60f29fb6", "7903fe1008b8bc99a41ae9e95628bc64f2f1b20c2d7e9f5177a3c294d4462299", "sample",
			"efd48b2aacb6a8fd1140dd9cd45e81d69d2c877b56aaf991c34d0ea84eaf3716", "f7cb1c942d657c41d436c7a1b6e29f65f3e900dbb9aff4064dc4ab2f843acda8",
		},
		{
			api.CurveP256, "60fed4ba255a9d31c961eb74c6356d68c049b8923b61fa6ce669622e60f29fb6", "7903fe1008b8bc99a41ae9e95628bc64f2f1b20c2d7e9f5177a3c294d4462299", "test",
			"f1abb023518351cd71d881567b1ea663ed3efcf6c5132b354f28d3b0b7d38367", "019f4113742a2b14bd25926b49c649155f267e60d3814b4c0cc84250e46f0083",
		},
		{
			api.CurveP384, "ec3a4e415b4e19a4568618029f427fa5da9a8bc4ae92e02e06aae5286b300c64def8f0ea9055866064a254515480bc13",
			"8015d9b72d7d57244ea8ef9ac0c621896708a59367f9dfb9f54ca84b3f1c9db1288b231c3ae0d4fe7344fd2533264720", "sample",
			"21b13d1e013c7fa1392d03c5f99af8b30c570c6f98d4ea8e354b63a21d3daa33bde1e888e63355d92fa2b3c36d8fb2cd",
			"f3aa443fb107745bf4bd77cb3891674632068a10ca67e3d45db2266fa7d1feebefdc63eccd1ac42ec0cb8668a4fa0ab0",
		},
		{
			api.CurveP521, "1894550d0785932e00eaa23b694f213f8c3121f86dc97a04e5a7167db4e5bcd371123d46e45db6b5d5370a7f20fb633155d38ffa16d2bd761dcac474b9a2f5023a4",
			"0493101c962cd4d2fddf782285e64584139c2f91b47f87ff82354d6630f746a28a0db25741b5b34a828008b22acc23f924faafbd4d33f81ea66956dfeaa2bfdfcf5", "sample",
			"1511bb4d675114fe266fc4372b87682baecc01d3cc62cf2303c92b3526012659d16876e25c7c1e57648f23b73564d67f61c6f14d527d54972810421e7d87589e1a7",
			"04a171143a83163d6df460aaf61522695f207a58b95c0644d87e52aa1a347916e4f7a72930b1bc06dbe22ce3f58264afd23704cbb63b29b931f7de6c9d949a7ecfc",
		},
	} {
		m, sum := models()[c.id-1], sha256.Sum256([]byte(c.message))
		e, inverse := new(big.Int).SetBytes(sum[:]), new(big.Int).ModInverse(digits(c.s), m.n)
		if size := m.n.BitLen(); size < 256 {
			e.Rsh(e, uint(256-size))
		}
		u, v := m.modulo(e.Mul(e, inverse)), m.modulo(new(big.Int).Mul(digits(c.r), inverse))
		got := answer(t, m, u, v, &spot{digits(c.x), digits(c.y)})
		if x := m.modulo(bigOf(got.X)); got.Inf || x.Cmp(digits(c.r)) != 0 {
			t.Errorf("curve %d: %s: %x", c.id, c.message, x)
		}
	}
}

// P20.1: the errors

// checkNone: beside an error the point is a zero value.
func checkNone(t *testing.T, id int, u api.Nat, v api.Nat, q api.Point, want api.Errno) {
	t.Helper()
	if got, errno := Mul(id, u, v, q); got != (api.Point{}) || errno != want {
		t.Fatalf("curve %d: %x, %x times %v: %v, %d; not %d", id, bigOf(u), bigOf(v), q, got, errno, want)
	}
}

// fromNOn are numbers that are not below N, far and near; in some of them one
// word alone is too great.
func (m model) fromNOn(r *rand.Rand) []*big.Int {
	one := big.NewInt(1)
	list := []*big.Int{m.n, more(m.n, 1), more(m.n, 2), new(big.Int).Lsh(m.n, 1), greatest(), less(greatest(), 1)}
	list = append(list, less(new(big.Int).Lsh(one, uint(m.n.BitLen())), 1), new(big.Int).Lsh(one, 575), m.p)
	for k := m.n.BitLen(); k < 576; k += 1 + r.Intn(8) {
		top := new(big.Int).Lsh(one, uint(k))
		list = append(list, top, more(top, 1), new(big.Int).Or(top, m.below(r)))
	}
	for k := uint(0); k < 576; k += 64 {
		list = append(list, new(big.Int).Add(m.n, new(big.Int).Lsh(one, k)))
	}
	room := new(big.Int).Sub(greatest(), m.n)
	for range 20 {
		list = append(list, new(big.Int).Add(m.n, new(big.Int).Rand(r, room)))
	}
	return slices.DeleteFunc(list, func(d *big.Int) bool { return d.Cmp(m.n) < 0 || d.BitLen() > 576 })
}

// TestNoCurve: whatever the numbers and the point are, the curve is told first.
func TestNoCurve(t *testing.T) {
	t.Parallel()
	top := natOf(greatest())
	points := []api.Point{{}, infinity(), {X: small(1), Y: small(1)}, {X: top, Y: top, Inf: true}, {X: small(1), Inf: true}}
	list := []api.Nat{small(0), small(1), top}
	for _, m := range models() {
		points = append(points, m.base().point())
		list = append(list, natOf(m.n), natOf(less(m.n, 1)))
	}
	for _, id := range strangers() {
		for _, q := range points {
			for _, d := range list {
				checkNone(t, id, d, small(1), q, api.ErrDualCurve)
				checkNone(t, id, small(1), d, q, api.ErrDualCurve)
				checkNone(t, id, d, d, q, api.ErrDualCurve)
			}
		}
	}
}

func TestOnlyFifteenCurves(t *testing.T) {
	t.Parallel()
	two := big.NewInt(2)
	for id := -2000; id <= 2000; id++ {
		if 1 <= id && id <= 15 {
			m := models()[id-1]
			checkMul(t, m, two, two, nil, m.times(two, m.base()))
			checkNone(t, id, small(2), small(2), api.Point{}, api.ErrDualPoint)
		} else {
			checkNone(t, id, small(2), small(2), infinity(), api.ErrDualCurve)
			checkNone(t, id, small(2), small(2), api.Point{}, api.ErrDualCurve)
		}
	}
}

// TestNotOn: whatever the numbers are, the point is told ahead of them; a v of 0
// does not excuse it.
func TestNotOn(t *testing.T) {
	eachCurve(t, func(t *testing.T, m model, r *rand.Rand) {
		list := append(numbers(0, 1), less(m.n, 1), m.below(r), m.n, more(m.n, 1), greatest())
		for _, q := range m.wrong(t, r) {
			for _, u := range list {
				for _, v := range list {
					checkNone(t, m.id, natOf(u), natOf(v), q, api.ErrDualPoint)
				}
			}
		}
	})
}

// TestEveryBit: a point with any one of its bits turned is none.
func TestEveryBit(t *testing.T) {
	eachCurve(t, func(t *testing.T, m model, r *rand.Rand) {
		for _, s := range []*spot{m.base(), m.drawn(r), nil} {
			for i := range 576 {
				p, q := s.point(), s.point()
				p.X.W[i/64] ^= 1 << (i % 64)
				q.Y.W[i/64] ^= 1 << (i % 64)
				for _, q := range slices.DeleteFunc([]api.Point{p, q}, m.on) {
					checkNone(t, m.id, small(3), small(3), q, api.ErrDualPoint)
				}
			}
			q := s.point()
			q.Inf = !q.Inf
			checkNone(t, m.id, small(3), small(3), q, api.ErrDualPoint)
		}
	})
}

// TestNotOnByName: what P13.1's words rule out, one by one.
func TestNotOnByName(t *testing.T) {
	eachCurve(t, func(t *testing.T, m model, _ *rand.Rand) {
		g, p := m.base().point(), natOf(m.p)
		list := []api.Point{
			{}, {X: g.X, Y: natOf(more(m.y, 1))}, {X: natOf(more(m.x, 1)), Y: g.Y}, {X: g.Y, Y: g.X},
			{X: small(1), Inf: true}, {Y: small(1), Inf: true}, {X: g.X, Y: g.Y, Inf: true},
			{X: p, Y: g.Y}, {X: g.X, Y: p}, {X: natOf(new(big.Int).Add(m.x, m.p)), Y: g.Y}, {X: g.X, Y: natOf(new(big.Int).Add(m.y, m.p))},
		}
		for _, wrong := range slices.DeleteFunc(list, m.on) {
			checkNone(t, m.id, small(1), small(1), wrong, api.ErrDualPoint)
			checkNone(t, m.id, small(1), small(0), wrong, api.ErrDualPoint)
			checkNone(t, m.id, natOf(m.n), natOf(m.n), wrong, api.ErrDualPoint)
		}
	})
}

// TestPointsOfOthers: a point of one curve is told off by each other curve that
// does not have it.
func TestPointsOfOthers(t *testing.T) {
	t.Parallel()
	r := rand.New(rand.NewSource(14))
	for _, m := range models() {
		for _, other := range models() {
			for _, q := range []api.Point{other.base().point(), other.drawn(r).point()} {
				if !m.on(q) {
					checkNone(t, m.id, small(5), small(5), q, api.ErrDualPoint)
				}
			}
		}
	}
}

// TestFromNOn: u alone, v alone, and both; q at infinity does not excuse v.
func TestFromNOn(t *testing.T) {
	eachCurve(t, func(t *testing.T, m model, r *rand.Rand) {
		list := m.fromNOn(r)
		for _, d := range list {
			for _, s := range []*spot{m.base(), m.drawn(r), nil} {
				for _, fine := range []*big.Int{big.NewInt(0), big.NewInt(1), less(m.n, 1), m.below(r)} {
					checkNone(t, m.id, natOf(d), natOf(fine), s.point(), api.ErrDualRange)
					checkNone(t, m.id, natOf(fine), natOf(d), s.point(), api.ErrDualRange)
				}
				checkNone(t, m.id, natOf(d), natOf(d), s.point(), api.ErrDualRange)
				checkNone(t, m.id, natOf(d), natOf(list[r.Intn(len(list))]), s.point(), api.ErrDualRange)
			}
		}
	})
}

// TestJustBelowN: N less one in one of its words, and less 1, is taken.
func TestJustBelowN(t *testing.T) {
	eachCurve(t, func(t *testing.T, m model, r *rand.Rand) {
		s := m.drawn(r)
		for k := 0; k < m.n.BitLen(); k += 64 {
			d := new(big.Int).Sub(m.n, new(big.Int).Lsh(big.NewInt(1), uint(k)))
			if d.Sign() < 0 {
				continue
			}
			for _, other := range []*big.Int{d, m.below(r)} {
				checkMul(t, m, d, other, s, m.want(d, other, s))
				checkMul(t, m, other, d, s, m.want(other, d, s))
			}
		}
	})
}

// R4 and R5

// asked is a call beside what it has to answer.
type asked struct {
	m    model
	u, v *big.Int
	s    *spot
	want *spot
}

func drawnCalls(r *rand.Rand, count int) []asked {
	list := models()
	var calls []asked
	for i := range count {
		m := list[i%len(list)]
		u, v, s := m.below(r), m.below(r), m.drawn(r)
		calls = append(calls, asked{m, u, v, s, m.want(u, v, s)})
	}
	return calls
}

// TestCallsApart: the same calls over again, with others and refused ones between
// them.
func TestCallsApart(t *testing.T) {
	t.Parallel()
	r := rand.New(rand.NewSource(5))
	calls, ids := drawnCalls(r, 30), strangers()
	for range 150 {
		c := calls[r.Intn(len(calls))]
		checkMul(t, c.m, c.u, c.v, c.s, c.want)
		checkNone(t, ids[r.Intn(len(ids))], natOf(c.u), natOf(c.v), c.s.point(), api.ErrDualCurve)
		checkNone(t, c.m.id, natOf(c.u), natOf(c.v), api.Point{}, api.ErrDualPoint)
		checkNone(t, c.m.id, natOf(c.m.n), natOf(c.v), c.s.point(), api.ErrDualRange)
		checkNone(t, c.m.id, natOf(c.u), natOf(c.m.n), c.s.point(), api.ErrDualRange)
	}
}

// TestTwiceTheSame: two calls of the same, one behind the other and with a call
// between them in which one thing is another.
func TestTwiceTheSame(t *testing.T) {
	eachCurve(t, func(t *testing.T, m model, r *rand.Rand) {
		s, u, v := m.drawn(r), m.below(r), m.below(r)
		want, other, point := m.want(u, v, s), m.below(r), m.drawn(r)
		checkMul(t, m, u, v, s, want)
		checkMul(t, m, u, v, s, want)
		checkMul(t, m, other, v, s, m.want(other, v, s))
		checkMul(t, m, u, v, s, want)
		checkMul(t, m, u, other, s, m.want(u, other, s))
		checkMul(t, m, u, v, s, want)
		for _, point := range []*spot{point, m.neg(s), m.base(), nil} {
			checkMul(t, m, u, v, point, m.want(u, v, point))
			checkMul(t, m, u, v, s, want)
		}
	})
}

// TestArgumentsStay: what is handed in is a value, and what is answered the
// caller's own.
func TestArgumentsStay(t *testing.T) {
	eachCurve(t, func(t *testing.T, m model, r *rand.Rand) {
		s, k, l := m.drawn(r), m.below(r), m.below(r)
		q, u, v := s.point(), natOf(k), natOf(l)
		got, _ := Mul(m.id, u, v, q)
		if q != s.point() || u != natOf(k) || v != natOf(l) {
			t.Fatalf("%v, %v, %v", q, u, v)
		}
		for i := range got.X.W {
			got.X.W[i], got.Y.W[i], q.X.W[i], u.W[i], v.W[i] = ^got.X.W[i], 5, ^q.X.W[i], 7, 9
		}
		checkMul(t, m, k, l, s, m.want(k, l, s))
	})
}

func TestSeveralGoroutines(t *testing.T) {
	t.Parallel()
	calls := drawnCalls(rand.New(rand.NewSource(8)), 15)
	var group sync.WaitGroup
	for i := range 8 {
		group.Go(func() {
			for turn := range calls {
				c := calls[(i+turn)%len(calls)]
				got, errno := Mul(c.m.id, natOf(c.u), natOf(c.v), c.s.point())
				if got != c.want.point() || errno != api.OK {
					t.Errorf("curve %d: %x, %x times %v: %v, %d", c.m.id, c.u, c.v, c.s.point(), got, errno)
				}
			}
		})
	}
	group.Wait()
}

// Ways: both scalars are walked together

// curve answers what the inner functions need to know of it.
func (m model) curve() api.Curve {
	return api.Curve{Id: m.id, G: m.base().point(), Bits: m.n.BitLen()}
}

// TestSumsOf: a place for each pair of digits.
func TestSumsOf(t *testing.T) {
	eachCurve(t, func(t *testing.T, m model, r *rand.Rand) {
		for _, s := range []*spot{nil, m.base(), m.neg(m.base()), m.times(big.NewInt(2), m.base()), m.drawn(r)} {
			for place, triple := range sumsOf(m.curve(), s.point()) {
				u, v := big.NewInt(int64(place/radix)), big.NewInt(int64(place%radix))
				if got, errno := proj.To(m.id, triple); got != m.want(u, v, s).point() || errno != api.OK {
					t.Fatalf("%v: place %d: %v, %d", s.point(), place, got, errno)
				}
			}
		}
	})
}

// TestOneSumForBoth: at each place of the numbers the pair of digits is looked up
// as one, whatever stands there.
func TestOneSumForBoth(t *testing.T) {
	eachCurve(t, func(t *testing.T, m model, r *rand.Rand) {
		var pairs sums
		times := numbers(0)
		pairs[0], _ = proj.From(m.id, infinity())
		for place := 1; place < len(pairs); place++ {
			times = append(times, m.above(r))
			pairs[place], _ = proj.From(m.id, m.times(times[place], m.base()).point())
		}
		for range 4 {
			u, v, whole := m.below(r), m.below(r), new(big.Int)
			for bit := m.n.BitLen() / width * width; bit >= 0; bit -= width {
				place := digitAt(u, bit)*radix + digitAt(v, bit)
				whole.Mul(whole, big.NewInt(radix)).Add(whole, times[place])
			}
			if got := walk(m.curve(), natOf(u), natOf(v), pairs); got != m.times(m.modulo(whole), m.base()).point() {
				t.Fatalf("%x, %x: %v", u, v, got)
			}
		}
	})
}

// digitAt answers the digit of d that begins at a bit.
func digitAt(d *big.Int, bit int) int {
	part := new(big.Int).Rsh(d, uint(bit))
	return int(part.And(part, big.NewInt(radix-1)).Int64())
}
