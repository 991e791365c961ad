package marshal_test

import (
	"testing"

	"marshal/api"
)

// What README.md shows of a server.
func TestReadmeServer(t *testing.T) {
	const source = "struct S { int x; }; program P { version V { S twice(S) = 1; void stop(void) = 2; } = 1; } = 7;"
	checkCalls(t, source, limits(8, 100, 1000), func(c api.Call, arg []api.Node) ([]api.Node, error) {
		switch c {
		case api.Call{Prog: 7, Vers: 1, Proc: 1}:
			arg[1].N *= 2
			return arg, nil
		}
		return nil, nil
	}, asked{head(1, 7, 1, 1) + words32(21), taken(1, 0, 42)}, asked{head(2, 7, 1, 2), taken(2, 0)}, asked{head(3, 7, 1, 1) + words32(1<<30), taken(3, 5)})
}
