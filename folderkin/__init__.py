"""Folderkin: folders that devices keep alike."""
