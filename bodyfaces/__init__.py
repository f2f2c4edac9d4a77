"""Corners, edges, faces: the bodies that some points have, in up to four dimensions."""
