"""Threescribes: functions of texts in three forms."""
