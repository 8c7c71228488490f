"""Tests of drawnmore."""
