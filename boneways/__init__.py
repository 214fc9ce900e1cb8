"""Boneways: pictures thinned to lines, by rules that are judged first."""
