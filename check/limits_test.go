package check

import (
	"strconv"
	"strings"
	"testing"

	"merlon/api"
)

func TestBytesOfGlobals(t *testing.T) {
	wholes(t, ended([]sample{
		{"char a[4096][8];", api.OK}, {"char @a[4096][9];", api.ErrFrame}, {"char a[4096][7]; char b[4096];", api.OK}, {"char a[4096][7]; char b[4095]; char @c;", api.ErrFrame},
		{"char a[4096][7]; char b[4088]; char c[8];", api.OK}, {"char a[4096][7]; char b[4088]; char @c[9];", api.ErrFrame}, {"char a[4096][7]; char b[4089]; char @c;", api.ErrFrame}, {"char a[4096][7]; char b[4088]; char c; char @d;", api.ErrFrame}, {"char a[4096][7]; char b[4080]; long c;", api.OK},
		{"char @a[4096][4096][4096][4096];", api.ErrFrame}, {"long *@a[4096][4096][4096][4096];", api.ErrFrame}, {"char a[4096][8]; char @b;", api.ErrFrame},
		{"struct s { char a[4096][8]; }; struct s a;", api.OK}, {"struct s { char a[4096][8]; }; struct s @a[4096][4096][4096][4096];", api.ErrFrame}, {"struct s { char a[4096][8]; }; struct s @a[2];", api.ErrFrame},
	}))
	p := passes(t, "char a[4096][7]; char b[4089]; int main() { return 0; }")
	if p.Data != 32761 || p.Globals[1].At != 28672 {
		t.Errorf("Data = %d", p.Data)
	}
}

func TestBytesOfLocals(t *testing.T) {
	ints := func(n int) string {
		var b strings.Builder
		for i := range n {
			b.WriteString("char a" + strconv.Itoa(i) + ";")
		}
		return b.String()
	}
	bodies(t, []sample{
		{"long y[512];", api.OK}, {"long @y[513];", api.ErrFrame}, {"char y[4096];", api.OK}, {"char @y[4096][2];", api.ErrFrame}, {"char y[4095]; char @z;", api.ErrFrame}, {"char y[4088]; char z;", api.OK}, {"char y[4081]; char z; char @w;", api.ErrFrame}, {"char y[4089]; char @z;", api.ErrFrame}, {"char y[4088]; char z[8];", api.OK}, {"char y[4088]; char @z[9];", api.ErrFrame}, {"char y[4087]; char z[1];", api.OK},
		{"{ long y[512]; } { char @y; }", api.ErrFrame}, {"{ long y[256]; } { long y[256]; }", api.OK}, {"if (x) long y[512]; else int @y;", api.ErrFrame}, {"for (long y[512]; ; ) int @y;", api.ErrFrame},
		{ints(512), api.OK}, {ints(512) + "int @y;", api.ErrFrame}, {"char @y[4096][4096][4096][4096];", api.ErrFrame}, {"struct big @y[4096][4096][4096][4096];", api.ErrFrame}, {"long *y[512];", api.OK}, {"long *y[512]; { { long *@y; } }", api.ErrFrame}, {"long y[511]; secret char z = k; int @w = 1;", api.ErrFrame},
	})
	wholes(t, ended([]sample{
		{"int f(char a) { long y[511]; return 0; }", api.OK}, {"int f(char a) { long @y[512]; return 0; }", api.ErrFrame}, {"int f(int a, int *b, long c, char d, char e, char f) { long y[506]; return 0; }", api.OK}, {"int f(int a, int *b, long c, char d, char e, char f) { long @y[507]; return 0; }", api.ErrFrame},
		{"int f() { long y[512]; return 0; } int g() { long y[512]; return 0; }", api.OK},
	}))
}

func TestSizesOfCopies(t *testing.T) {
	wholes(t, []sample{
		{"struct s { long a[32]; }; struct s x; struct s y; int main() { x = y; struct s z = x; return 0; }", api.OK},
		{"struct s { long a[32]; char b; }; struct s x; struct s y; int main() { x @= y; return 0; }", api.ErrSize},
		{"struct s { long a[33]; }; struct s x; int main() { struct s @z = x; return 0; }", api.ErrSize},
	})
}

// The greatest sources of a kind are checked all the same.
func TestLongSources(t *testing.T) {
	stars := strings.Repeat("*", 9000)
	passes(t, "int "+stars+"p; int main() { "+strings.Repeat("p;", 2990)+" return 0; }")
	passes(t, "struct s { int "+stars+"p; }; struct s z; int main() { "+strings.Repeat("z.p;", 1600)+" return 0; }")
	passes(t, "int main() { return "+strings.Repeat("1+", 2900)+"1; }")
	fails(t, "int x = @"+strings.Repeat("1+", 2900)+"main(); int main() { return 0; }", api.ErrConst)
	p := passes(t, "long x = "+strings.Repeat("1+", 2900)+"1; int main() { return 0; }")
	if d := p.Globals[0].Data; int(d[0])+int(d[1])<<8 != 2901 {
		t.Errorf("%v", d)
	}
	passes(t, "int t[4096]; int main() { return t"+strings.Repeat("[t", 25)+"[0]"+strings.Repeat("]", 25)+"; }")
	var b strings.Builder
	for i := range 900 {
		b.WriteString("case " + strconv.Itoa(i) + ":")
		if i%60 == 59 {
			b.WriteString(";")
		}
	}
	passes(t, "int main() { switch (1) { "+b.String()+" } return 0; }")
}
