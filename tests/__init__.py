"""Tests of boneways; run them by .ci/run, or as README.md tells."""
