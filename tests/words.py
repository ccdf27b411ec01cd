"""Types as the document tells them, called sorts here, at their bounds."""

FIELD_SORTS = tuple("BCDFIJSZ") + (
    "La;", "La/b;", "LV;", "L<a>;", "LL;", "L(;", "[I", "[[J", "[La;", "[" * 255 + "Z", "[" * 255 + "La;",
)

METHOD_SORTS = (
    "()V", "()I", "(I)V", "(I)[J", "([[I)La;", "(La;J)LV;", "(BCDFIJSZ)D", "([[[La/b;[J)V",
    "(" + "I" * 255 + ")V", "(" + "J" * 127 + ")V", "(" + "D" * 127 + "I)V", "(" + "[J" * 255 + ")J",
    "(" + "La;" * 255 + ")V", "(" + "[" * 255 + "I)" + "[" * 255 + "I", "()J", "(" + "I" * 255 + ")J",
) + tuple("(" + sign * 255 + ")V" for sign in "BCFISZ")

NO_FIELD_SORTS = (
    "", "V", "X", "i", "II", "IV", "L", "L;", "La", "La;;", "La;I", "L/a;", "La/;", "La//b;", "La.b;", "La[b;", "L[I;",
    "[", "[[", "[V", "[X", "[I[", "[II", "I[", "[" * 256 + "I", "[" * 256, "[" * 256 + "La;", " I", "I ", "a", ";",
    "A", "E", "G", "H", "K", "R", "T", "Y", "()V", "()I",
)

NO_METHOD_SORTS = (
    "", "(", ")", "()", "V", "I", "V()", "(V)V", "(IV)V", "()VV", "()II", "()IV", "()V ", "(I", "(I)", "I)V", "()X",
    "((I)V", "(I))V", "(()V)V", "(I)(I)V", "[()V", "(X)V", "(I;)V", "(L;)V", "(La)V", "(La", "([)V", "()[", "()[V",
    "()L;", "()La", "(" + "[" * 256 + "I)V", "()" + "[" * 256 + "I",
    "(" + "I" * 256 + ")V", "(" + "J" * 128 + ")V", "(" + "D" * 128 + ")V", "(" + "J" * 127 + "II)V",
    "(I" + "D" * 127 + "I)V", "(I" * 2 + ")V", "(" + "[J" * 256 + ")V", "(" + "La;" * 256 + ")V",
    "(" + "I" * 254 + "J)V", "(" + "I" * 300,
) + tuple("(" + sign * 256 + ")V" for sign in "BCFISZ")
