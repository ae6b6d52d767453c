package curve

import (
	"curvet/api"
	"curvet/nat"
	"curvet/prime"
)

// maker answers a curve's A, B, N and G; where A is told by P, it needs P.
type maker func(p api.Nat) api.Curve

// table answers the curves by their numbers: a curve is made when it is asked
// for, and no other one with it.
func table() [api.CurveTiny3 + 1]maker {
	return [...]maker{
		api.CurveP192:  p192,
		api.CurveP224:  p224,
		api.CurveP256:  p256,
		api.CurveP384:  p384,
		api.CurveP521:  p521,
		api.CurveK256:  k256,
		api.CurveB160:  b160,
		api.CurveB224:  b224,
		api.CurveB256:  b256,
		api.CurveB320:  b320,
		api.CurveB384:  b384,
		api.CurveB512:  b512,
		api.CurveTiny1: tiny1,
		api.CurveTiny2: tiny2,
		api.CurveTiny3: tiny3,
	}
}

// find answers the curve of that number, and whether there is one.
func find(id int) (equation, bool) {
	makers := table()
	if id < 0 || id >= len(makers) || makers[id] == nil {
		return equation{}, false
	}
	p, _ := prime.Of(id)
	c := makers[id](p)
	c.Id = id
	c.P = p
	c.Bits = nat.Bits(c.N)
	c.Size = (nat.Bits(p) + 7) / 8
	c.Legacy = id == api.CurveP192 || id == api.CurveB160
	return equation{c}, true
}

// number answers the number of these words, the highest first, as its digits
// are published.
func number(words ...uint64) api.Nat {
	var a api.Nat
	for i, word := range words {
		a.W[len(words)-1-i] = word
	}
	return a
}

// lessThree answers P less 3, which is how -3 is told modulo P.
func lessThree(p api.Nat) api.Nat {
	a, _ := nat.Sub(p, nat.Small(3))
	return a
}

func p192(p api.Nat) api.Curve {
	return api.Curve{
		A: lessThree(p),
		B: number(0x64210519e59c80e7, 0x0fa7e9ab72243049, 0xfeb8deecc146b9b1),
		N: number(0xffffffffffffffff, 0xffffffff99def836, 0x146bc9b1b4d22831),
		G: api.Point{
			X: number(0x188da80eb03090f6, 0x7cbf20eb43a18800, 0xf4ff0afd82ff1012),
			Y: number(0x07192b95ffc8da78, 0x631011ed6b24cdd5, 0x73f977a11e794811),
		},
	}
}

func p224(p api.Nat) api.Curve {
	return api.Curve{
		A: lessThree(p),
		B: number(0x00000000b4050a85, 0x0c04b3abf5413256, 0x5044b0b7d7bfd8ba, 0x270b39432355ffb4),
		N: number(0x00000000ffffffff, 0xffffffffffffffff, 0xffff16a2e0b8f03e, 0x13dd29455c5c2a3d),
		G: api.Point{
			X: number(0x00000000b70e0cbd, 0x6bb4bf7f321390b9, 0x4a03c1d356c21122, 0x343280d6115c1d21),
			Y: number(0x00000000bd376388, 0xb5f723fb4c22dfe6, 0xcd4375a05a074764, 0x44d5819985007e34),
		},
	}
}

func p256(p api.Nat) api.Curve {
	return api.Curve{
		A: lessThree(p),
		B: number(0x5ac635d8aa3a93e7, 0xb3ebbd55769886bc, 0x651d06b0cc53b0f6, 0x3bce3c3e27d2604b),
		N: number(0xffffffff00000000, 0xffffffffffffffff, 0xbce6faada7179e84, 0xf3b9cac2fc632551),
		G: api.Point{
			X: number(0x6b17d1f2e12c4247, 0xf8bce6e563a440f2, 0x77037d812deb33a0, 0xf4a13945d898c296),
			Y: number(0x4fe342e2fe1a7f9b, 0x8ee7eb4a7c0f9e16, 0x2bce33576b315ece, 0xcbb6406837bf51f5),
		},
	}
}

func p384(p api.Nat) api.Curve {
	return api.Curve{
		A: lessThree(p),
		B: number(0xb3312fa7e23ee7e4, 0x988e056be3f82d19, 0x181d9c6efe814112, 0x0314088f5013875a, 0xc656398d8a2ed19d, 0x2a85c8edd3ec2aef),
		N: number(0xffffffffffffffff, 0xffffffffffffffff, 0xffffffffffffffff, 0xc7634d81f4372ddf, 0x581a0db248b0a77a, 0xecec196accc52973),
		G: api.Point{
			X: number(0xaa87ca22be8b0537, 0x8eb1c71ef320ad74, 0x6e1d3b628ba79b98, 0x59f741e082542a38, 0x5502f25dbf55296c, 0x3a545e3872760ab7),
			Y: number(0x3617de4a96262c6f, 0x5d9e98bf9292dc29, 0xf8f41dbd289a147c, 0xe9da3113b5f0b8c0, 0x0a60b1ce1d7e819d, 0x7a431d7c90ea0e5f),
		},
	}
}

func p521(p api.Nat) api.Curve {
	return api.Curve{
		A: lessThree(p),
		B: number(0x0000000000000051, 0x953eb9618e1c9a1f, 0x929a21a0b68540ee, 0xa2da725b99b315f3, 0xb8b489918ef109e1, 0x56193951ec7e937b, 0x1652c0bd3bb1bf07, 0x3573df883d2c34f1, 0xef451fd46b503f00),
		N: number(0x00000000000001ff, 0xffffffffffffffff, 0xffffffffffffffff, 0xffffffffffffffff, 0xfffffffffffffffa, 0x51868783bf2f966b, 0x7fcc0148f709a5d0, 0x3bb5c9b8899c47ae, 0xbb6fb71e91386409),
		G: api.Point{
			X: number(0x00000000000000c6, 0x858e06b70404e9cd, 0x9e3ecb662395b442, 0x9c648139053fb521, 0xf828af606b4d3dba, 0xa14b5e77efe75928, 0xfe1dc127a2ffa8de, 0x3348b3c1856a429b, 0xf97e7e31c2e5bd66),
			Y: number(0x0000000000000118, 0x39296a789a3bc004, 0x5c8a5fb42c7d1bd9, 0x98f54449579b4468, 0x17afbd17273e662c, 0x97ee72995ef42640, 0xc550b9013fad0761, 0x353c7086a272c240, 0x88be94769fd16650),
		},
	}
}

func k256(api.Nat) api.Curve {
	return api.Curve{
		A: nat.Small(0),
		B: nat.Small(7),
		N: number(0xffffffffffffffff, 0xfffffffffffffffe, 0xbaaedce6af48a03b, 0xbfd25e8cd0364141),
		G: api.Point{
			X: number(0x79be667ef9dcbbac, 0x55a06295ce870b07, 0x029bfcdb2dce28d9, 0x59f2815b16f81798),
			Y: number(0x483ada7726a3c465, 0x5da4fbfc0e1108a8, 0xfd17b448a6855419, 0x9c47d08ffb10d4b8),
		},
	}
}

func b160(api.Nat) api.Curve {
	return api.Curve{
		A: number(0x00000000340e7be2, 0xa280eb74e2be61ba, 0xda745d97e8f7c300),
		B: number(0x000000001e589a85, 0x95423412134faa2d, 0xbdec95c8d8675e58),
		N: number(0x00000000e95e4a5f, 0x737059dc60df5991, 0xd45029409e60fc09),
		G: api.Point{
			X: number(0x00000000bed5af16, 0xea3f6a4f62938c46, 0x31eb5af7bdbcdbc3),
			Y: number(0x000000001667cb47, 0x7a1a8ec338f94741, 0x669c976316da6321),
		},
	}
}

func b224(api.Nat) api.Curve {
	return api.Curve{
		A: number(0x0000000068a5e62c, 0xa9ce6c1c299803a6, 0xc1530b514e182ad8, 0xb0042a59cad29f43),
		B: number(0x000000002580f63c, 0xcfe44138870713b1, 0xa92369e33e2135d2, 0x66dbb372386c400b),
		N: number(0x00000000d7c134aa, 0x264366862a183025, 0x75d0fb98d116bc4b, 0x6ddebca3a5a7939f),
		G: api.Point{
			X: number(0x000000000d9029ad, 0x2c7e5cf4340823b2, 0xa87dc68c9e4ce317, 0x4c1e6efdee12c07d),
			Y: number(0x0000000058aa56f7, 0x72c0726f24c6b89e, 0x4ecdac24354b9e99, 0xcaa3f6d3761402cd),
		},
	}
}

func b256(api.Nat) api.Curve {
	return api.Curve{
		A: number(0x7d5a0975fc2c3057, 0xeef67530417affe7, 0xfb8055c126dc5c6c, 0xe94a4b44f330b5d9),
		B: number(0x26dc5c6ce94a4b44, 0xf330b5d9bbd77cbf, 0x958416295cf7e1ce, 0x6bccdc18ff8c07b6),
		N: number(0xa9fb57dba1eea9bc, 0x3e660a909d838d71, 0x8c397aa3b561a6f7, 0x901e0e82974856a7),
		G: api.Point{
			X: number(0x8bd2aeb9cb7e57cb, 0x2c4b482ffc81b7af, 0xb9de27e1e3bd23c2, 0x3a4453bd9ace3262),
			Y: number(0x547ef835c3dac4fd, 0x97f8461a14611dc9, 0xc27745132ded8e54, 0x5c1d54c72f046997),
		},
	}
}

func b320(api.Nat) api.Curve {
	return api.Curve{
		A: number(0x3ee30b568fbab0f8, 0x83ccebd46d3f3bb8, 0xa2a73513f5eb79da, 0x66190eb085ffa9f4, 0x92f375a97d860eb4),
		B: number(0x520883949dfdbc42, 0xd3ad198640688a6f, 0xe13f41349554b49a, 0xcc31dccd88453981, 0x6f5eb4ac8fb1f1a6),
		N: number(0xd35e472036bc4fb7, 0xe13c785ed201e065, 0xf98fcfa5b68f12a3, 0x2d482ec7ee8658e9, 0x8691555b44c59311),
		G: api.Point{
			X: number(0x43bd7e9afb53d8b8, 0x5289bcc48ee5bfe6, 0xf20137d10a087eb6, 0xe7871e2a10a599c7, 0x10af8d0d39e20611),
			Y: number(0x14fdd05545ec1cc8, 0xab4093247f77275e, 0x0743ffed117182ea, 0xa9c77877aaac6ac7, 0xd35245d1692e8ee1),
		},
	}
}

func b384(api.Nat) api.Curve {
	return api.Curve{
		A: number(0x7bc382c63d8c150c, 0x3c72080ace05afa0, 0xc2bea28e4fb22787, 0x139165efba91f90f, 0x8aa5814a503ad4eb, 0x04a8c7dd22ce2826),
		B: number(0x04a8c7dd22ce2826, 0x8b39b55416f0447c, 0x2fb77de107dcd2a6, 0x2e880ea53eeb62d5, 0x7cb4390295dbc994, 0x3ab78696fa504c11),
		N: number(0x8cb91e82a3386d28, 0x0f5d6f7e50e641df, 0x152f7109ed5456b3, 0x1f166e6cac0425a7, 0xcf3ab6af6b7fc310, 0x3b883202e9046565),
		G: api.Point{
			X: number(0x1d1c64f068cf45ff, 0xa2a63a81b7c13f6b, 0x8847a3e77ef14fe3, 0xdb7fcafe0cbd10e8, 0xe826e03436d646aa, 0xef87b2e247d4af1e),
			Y: number(0x8abe1d7520f9c2a4, 0x5cb1eb8e95cfd552, 0x62b70b29feec5864, 0xe19c054ff9912928, 0x0e46462177918111, 0x42820341263c5315),
		},
	}
}

func b512(api.Nat) api.Curve {
	return api.Curve{
		A: number(0x7830a3318b603b89, 0xe2327145ac234cc5, 0x94cbdd8d3df91610, 0xa83441caea9863bc, 0x2ded5d5aa8253aa1, 0x0a2ef1c98b9ac8b5, 0x7f1117a72bf2c7b9, 0xe7c1ac4d77fc94ca),
		B: number(0x3df91610a83441ca, 0xea9863bc2ded5d5a, 0xa8253aa10a2ef1c9, 0x8b9ac8b57f1117a7, 0x2bf2c7b9e7c1ac4d, 0x77fc94cadc083e67, 0x984050b75ebae5dd, 0x2809bd638016f723),
		N: number(0xaadd9db8dbe9c48b, 0x3fd4e6ae33c9fc07, 0xcb308db3b3c9d20e, 0xd6639cca70330870, 0x553e5c414ca92619, 0x418661197fac1047, 0x1db1d381085ddadd, 0xb58796829ca90069),
		G: api.Point{
			X: number(0x81aee4bdd82ed964, 0x5a21322e9c4c6a93, 0x85ed9f70b5d916c1, 0xb43b62eef4d0098e, 0xff3b1f78e2d0d48d, 0x50d1687b93b97d5f, 0x7c6d5047406a5e68, 0x8b352209bcb9f822),
			Y: number(0x7dde385d566332ec, 0xc0eabfa9cf7822fd, 0xf209f70024a57b1a, 0xa000c55b881f8111, 0xb2dcde494a5f485e, 0x5bca4bd88a2763ae, 0xd1ca2b2fa8f05406, 0x78cd1e0f3ad80892),
		},
	}
}

func tiny1(p api.Nat) api.Curve {
	return api.Curve{
		A: lessThree(p),
		B: nat.Small(0x1a),
		N: nat.Small(0xdf),
		G: api.Point{
			X: nat.Small(2),
			Y: nat.Small(0x54),
		},
	}
}

func tiny2(api.Nat) api.Curve {
	return api.Curve{
		A: nat.Small(0),
		B: nat.Small(0xd),
		N: nat.Small(0xd3),
		G: api.Point{
			X: nat.Small(3),
			Y: nat.Small(0x2f),
		},
	}
}

func tiny3(api.Nat) api.Curve {
	return api.Curve{
		A: nat.Small(0x75),
		B: nat.Small(8),
		N: nat.Small(0xe5),
		G: api.Point{
			X: nat.Small(0),
			Y: nat.Small(0x29),
		},
	}
}
