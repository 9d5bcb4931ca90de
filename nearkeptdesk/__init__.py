"""Distances kept nearly, whole: the calls are answered by nearkeptdesk.office."""
