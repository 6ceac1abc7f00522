package lower_test

import (
	"slices"
	"testing"

	"stepwell/api"
	"stepwell/conv"
	"stepwell/lower"
	"stepwell/sample"
	"stepwell/shape"
)

func check(t *testing.T, call string, got api.Acc, err api.Errno, want api.Acc, wantErr api.Errno) {
	t.Helper()
	if err != wantErr || got.Shape != want.Shape || !slices.Equal(got.Data, want.Data) {
		t.Fatalf("%s = %+v, %d, want %+v, %d", call, got, err, want, wantErr)
	}
}

func checkWork(t *testing.T, s api.Shape, n api.Node, want int) {
	t.Helper()
	if got := lower.Work(s, n); got != want {
		t.Fatalf("Work of %+v with K %d, S %d, P %d, Out %d, %d weights and %d biases = %d, want %d", s, n.K, n.S, n.P, n.Out, len(n.W), len(n.Bias), got, want)
	}
}

// checkBoth holds the sums against those of conv, and the work against how often a weight is moved over the shape.
func checkBoth(t *testing.T, x api.Tensor, n api.Node) api.Errno {
	t.Helper()
	want, wantErr := conv.Of(x, n)
	got, err := lower.Of(x, n)
	check(t, "Of", got, err, want, wantErr)
	work := 0
	if wantErr == api.OK {
		slid := sample.Slid(x.Shape, n, n.Out)
		work = slid.H * slid.W * len(n.W)
	}
	checkWork(t, x.Shape, n, work)
	return err
}

// P13.1: numbers written out, and sums that go on from the other end of 32 bits.
func TestOfByHand(t *testing.T) {
	sample.Sums(func(x api.Tensor, n api.Node, want api.Acc) {
		got, err := lower.Of(x, n)
		check(t, "Of", got, err, want, api.OK)
	})
}

// P13.2: numbers written out.
func TestWorkByHand(t *testing.T) {
	s := api.Shape{H: 4, W: 4, C: 2}
	checkWork(t, s, sample.Node(2, 3, 1, 1, 5), 1440)
	checkWork(t, s, sample.Node(2, 3, 1, 0, 5), 360)
	checkWork(t, s, sample.Node(2, 2, 2, 0, 5), 160)
	checkWork(t, s, sample.Node(2, 4, 1, 0, 1), 32)
	checkWork(t, s, sample.Node(2, 1, 3, 0, 3), 24)
	// Another number of weights or of biases, a window that may not be or does not fit, too many channels.
	n := sample.Node(2, 3, 1, 1, 5)
	n.W = n.W[1:]
	checkWork(t, s, n, 0)
	n = sample.Node(2, 3, 1, 1, 5)
	n.Bias = n.Bias[1:]
	checkWork(t, s, n, 0)
	checkWork(t, s, api.Node{}, 0)
	checkWork(t, s, sample.Node(2, 3, 5, 1, 5), 0)
	checkWork(t, s, sample.Node(2, 5, 1, 0, 5), 0)
	checkWork(t, s, sample.Node(2, 1, 1, 0, 65), 0)
	checkWork(t, api.Shape{}, n, 0)
}

// P13.1, P13.2: all windows over all sorts of tensors.
func TestAllWindows(t *testing.T) {
	told := map[api.Errno]int{}
	for _, x := range append(sample.Tensors(), sample.Tensor(api.Shape{H: 7, W: 8, C: 3})) {
		sample.Windows(func(k, stride, p int) {
			for _, out := range []int{1, 2, 5, 64} {
				told[checkBoth(t, x, sample.Node(x.Shape.C, k, stride, p, out))]++
			}
		})
	}
	if told[api.OK] == 0 || told[api.ErrShape] == 0 || told[api.ErrWeights] == 0 {
		t.Errorf("only %v was told", told)
	}
}

// P13.1, P13.2: as many weights as a node may have, and more; one weight or one bias more or less, and none.
func TestWeights(t *testing.T) {
	told := map[api.Errno]int{}
	sample.Heavy(func(s api.Shape, n api.Node) {
		told[checkBoth(t, sample.Tensor(s), n)]++
	})
	if told[api.OK] != 4 || told[api.ErrWeights] != 4 {
		t.Errorf("%v was told", told)
	}
	for _, x := range sample.Tensors() {
		sample.Windows(func(k, stride, p int) {
			right := sample.Node(x.Shape.C, k, stride, p, 2)
			if _, err := conv.Shape(x.Shape, right); err != api.OK {
				return
			}
			sample.Misweighed(right, func(n api.Node) {
				if err := checkBoth(t, x, n); err != api.ErrWeights {
					t.Fatalf("%d weights and %d biases: %d", len(n.W), len(n.Bias), err)
				}
			})
		})
	}
}

// P13.1, P13.2: what may not be, in conv's order.
func TestErrors(t *testing.T) {
	told := map[api.Errno]int{}
	for _, x := range sample.Tensors() {
		sample.WrongWindows(func(n api.Node) {
			told[checkBoth(t, x, n)]++
		})
	}
	if told[api.ErrArg] == 0 || told[api.ErrShape] == 0 || told[api.ErrWeights] == 0 {
		t.Errorf("only %v was told", told)
	}
	for _, x := range sample.WrongTensors() {
		test := func(n api.Node) {
			got, err := lower.Of(x, n)
			check(t, "Of a wrong tensor", got, err, api.Acc{}, api.ErrShape)
			if !shape.Right(x.Shape) {
				checkWork(t, x.Shape, n, 0)
			}
		}
		sample.WrongWindows(test)
		test(sample.Node(max(0, min(x.Shape.C, 1025)), 1, 1, 0, 1))
	}
}

// P13.2: the numbers of a tensor do not matter to the work.
func TestWorkOfShapes(t *testing.T) {
	for _, s := range sample.Shapes() {
		n := sample.Node(s.C, 1, 1, 0, 1)
		checkWork(t, s, n, s.H*s.W*s.C)
		n.ZA, n.W, n.Bias = 5, make([]int8, s.C), []int32{-9}
		checkWork(t, s, n, s.H*s.W*s.C)
	}
}

// P13.1, P13.2: the other fields of a node do not matter.
func TestOtherFields(t *testing.T) {
	x := sample.Tensor(api.Shape{H: 5, W: 4, C: 3})
	n := sample.Node(3, 3, 2, 1, 2)
	want, err := lower.Of(x, n)
	if err != api.OK {
		t.Fatal(err)
	}
	sample.Others(n, func(other api.Node) {
		got, err := lower.Of(x, other)
		check(t, "Of", got, err, want, api.OK)
		checkWork(t, x.Shape, other, 3*2*2*9*3)
	})
}

// P13.3
func TestChannelsAlone(t *testing.T) {
	for _, x := range []api.Tensor{sample.Tensor(api.Shape{H: 6, W: 5, C: 2}), sample.Tensor(api.Shape{H: 1, W: 1, C: 7})} {
		sample.Windows(func(k, stride, p int) {
			const out = 6
			n := sample.Node(x.Shape.C, k, stride, p, out)
			together, err := lower.Of(x, n)
			one := n
			one.Out = 1
			for o := range out {
				wide := len(n.W) / out
				one.W, one.Bias = n.W[o*wide:(o+1)*wide], n.Bias[o:o+1]
				alone, aloneErr := lower.Of(x, one)
				if aloneErr != err || len(together.Data) != out*len(alone.Data) {
					t.Fatalf("K %d, S %d, P %d: %d, %d, %d sums, %d sums", k, stride, p, err, aloneErr, len(together.Data), len(alone.Data))
				}
				for i, v := range alone.Data {
					if together.Data[i*out+o] != v {
						t.Fatalf("K %d, S %d, P %d: channel %d has %d at %d, alone %d", k, stride, p, o, together.Data[i*out+o], i, v)
					}
				}
			}
		})
	}
}

// Rule 2: what is passed stays as it is, up to its capacity, and shares nothing with a result, nor do two results.
func TestNothingIsShared(t *testing.T) {
	if !sample.Unshared(lower.Of, api.Shape{H: 3, W: 3, C: 2}, sample.Node(2, 3, 1, 1, 4)) {
		t.Error("what was passed changed, or a result changed with another list")
	}
}
