"""Secondread: papers dealt to two readers each, a third reading where they differ."""
